import Derived.Test.YtbhbbeebncmaiaaGreatDoorMg08
import Derived.Test.YtbhbbeebncmaiaaGreatDoorMg11
import Derived.Test.YtbhbbeebncmaiaaGreatDoorMg12
set_option linter.all false
set_option maxHeartbeats 16000000
set_option maxRecDepth 10000
open Go.ChangeShapes Go.WideShapes Go.ChangeAt Go.RowKit
open Go renaming World → fV, Calls → f_
open Go.RowKit renaming Below → gm
open Go.Proofs.Tryz renaming prog → Vh
open Go.Value renaming int → Vb
open Go.IntKind renaming u8 → Vd, u16 → Ve, u32 → Vf, i64 → Vg
open Go.Proofs.Tryz
namespace Go.Proofs.YtbhbbeebncmaiaaGreatDoor
namespace Dh
open Bs
open Rr (iE jI kX oF)
theorem pV(s:ByteArray)(l:List UInt8)(hs:s.data.toList=l)(a b:Nat):s.extract a b=⟨((l.drop a).take (b-a)).toArray⟩:=by
 apply aC
 rw[az]
 apply aJ
 rw[Array.toList_extract,hs]
theorem wP{a b:List UInt8}{n:Nat}(h:a.length=n)(k:Nat):(a++b).drop (n+k)=b.drop k:=by
 rw[<-h,List.drop_append]
 simp
theorem Ac{a b:List UInt8}{n:Nat}(h:a.length=n):(a++b).take n=a:=by rw[<-h,List.take_left]
theorem parts(a0 a1 a2 a3 a4 a5 a6 a7 a8 a9 a10 a11 a12 a13 a14 a15 a16 a17 a18 a19 a20 a21 a22 a23 a24 a25 a26 a27 a28 a29 a30 a31 a32 a33:UInt8)(m m1 m2 m3 m4:List UInt8)(s s1 sh sf sc:ByteArray)(hS:s.data.toList=a0::a1::a2::a3::a4::a5::a6::a7::a8::a9::a10::a11::a12::a13::a14::a15::a16::a17::a18::a19::a20::a21::a22::a23::a24::a25::a26::a27::a28::a29::a30::a31::a32::a33::m)(e1:m=s1.data.toList++m1)(e2:m1=sh.data.toList++m2)(e3:m2=sf.data.toList++m3)(e4:m3=sc.data.toList++m4)(z1:s1.size=10)(z2:sh.size=64)(z3:sf.size=128)(z4:sc.size=4):
  s.size=240+m4.length/\s.extract 1 3=⟨#[a1,a2]⟩/\s.extract 4 8=⟨#[a4,a5,a6,a7]⟩/\s.extract 12 16=⟨#[a12,a13,a14,a15]⟩/\s.extract 16 20=⟨#[a16,a17,a18,a19]⟩/\s.extract 20 24=⟨#[a20,a21,a22,a23]⟩/\(∃r,s.extract 28 s.size=⟨(a28::a29::a30::a31::a32::a33::r).toArray⟩)/\
   s.extract 44 108=sh/\s.extract 108 236=sf/\s.extract 236 240=sc/\s.extract 240 s.size=⟨m4.toArray⟩:=by
 obtain⟨l0,l1,l2,l3⟩:=lens e1 e2 e3 e4 z1 z2 z3 z4
 have y1:s1.data.toList.length=10:=by rw[aF];exact z1
 have y2:sh.data.toList.length=64:=by rw[aF];exact z2
 have y3:sf.data.toList.length=128:=by rw[aF];exact z3
 have y4:sc.data.toList.length=4:=by rw[aF];exact z4
 have hz:s.size=240+m4.length:=by
  have q:s.data.toList.length=s.size:=by rw[aF];rfl
  rw[<-q,hS];simp only[aj];omega
 have d34:∀k,s.data.toList.drop (34+k)=m.drop k:=fun k=>by rw[hS,fG];rfl
 have f44:s.data.toList.drop 44=m1:=by rw[d34 10,e1,wP (k:=0) y1];rfl
 have f108:s.data.toList.drop 108=m2:=by
  rw[show(108:Nat)=44+64 from rfl,<-eu,f44,e2,wP (k:=0) y2];rfl
 have f236:s.data.toList.drop 236=m3:=by
  rw[show(236:Nat)=108+128 from rfl,<-eu,f108,e3,wP (k:=0) y3];rfl
 have f240:s.data.toList.drop 240=m4:=by
  rw[show(240:Nat)=236+4 from rfl,<-eu,f236,e4,wP (k:=0) y4];rfl
 refine⟨hz,?_,?_,?_,?_,?_,⟨m,?_⟩,?_,?_,?_,?_⟩
 ·rw[pV s _ hS];rfl
 ·rw[pV s _ hS];rfl
 ·rw[pV s _ hS];rfl
 ·rw[pV s _ hS];rfl
 ·rw[pV s _ hS];rfl
 ·rw[pV s _ rfl 28 s.size,bG (by rw[aW,aF];show s.size-28<=_;omega),hS];rfl
 ·rw[pV s _ rfl 44 108,f44,e2,show 108-44=64 from rfl,Ac y2]
 ·rw[pV s _ rfl 108 236,f108,e3,show 236-108=128 from rfl,Ac y3]
 ·rw[pV s _ rfl 236 240,f236,e4,show 240-236=4 from rfl,Ac y4]
 ·rw[pV s _ rfl 240 s.size,f240,bG (by omega)]
theorem KS(s:ByteArray)(w:fV)(hs:s.size<240):
  f_ Vh 70 #[.string s] w fun ee w'=>ee=.returned (.tuple #[.agg zD_,Vb Vg 1])/\gm w.heap.size w w':=by
 go_enter func70,ntmps70
 go_wp2
 exact Vl (v:=.tuple #[.agg zD_,Vb Vg 1]) (by simp[results,bi,go_sem]) rfl ⟨rfl,(R9 _ _).alloc (ai _) _⟩
def lV(k:Nat)(L:List Pc)(b:Nat)(w:fV)(mk:Value->Value)(e:Ending)(w':fV):Prop:=
 gm w.heap.size w w'/\(if k=0 then ∃v,e=.returned (.tuple #[mk v,Vb Vg 0])/\Has b w' v L else e=.returned (.tuple #[.agg zD_,Vb Vg k]))
end Dh
namespace Dh
open Bs
theorem jd(ps:List Pc):∀l,heavy (gW l ps)<=heavy l+heavy ps:=by
 induction ps with
 |nil=>intro l;show heavy l<=_;omega
 |cons p r ih=>
  intro l
  have q:=ih (add l p)
  have q2:=Cn l p
  have q3:=jN p r
  have q4:gW l (p::r)=gW (add l p) r:=rfl
  rw[q4];omega
theorem uR(c:UInt8)(l:List Pc):heavy (drop l c)<=heavy l:=by
 induction l with
 |nil=>exact ai _
 |cons p r ih=>
  have q3:=jN p r
  unfold drop at ih ⊢
  rw[bA]
  split
  ·rw[jN];omega
  ·omega
theorem EG(c:UInt8)(l:List Pc):has (drop l c) c=false:=by
 induction l with
 |nil=>rfl
 |cons p r ih=>
  unfold drop at ih ⊢
  rw[bA]
  split
  ·rename_i h
   rw[wT,ih]
   simpa[bne]using h
  ·exact ih
theorem wS(ps:List Pc)(c:UInt8):look (gW [] ps) c=if has ps c then some (data ps c)else none:=by
 rw[Ew]
 have:look [] c=none:=rfl
 rw[this]
 cases has ps c<;>simp
theorem Ch(m:List UInt8)(host file:ByteArray)(ps:List Pc)(h:pieces m=some ps)(h1:has ps 52=false):nE m host.data.toList file.data.toList=0/\oW m host.data.toList file.data.toList=gW [] ps:=by
 constructor
 ·rw[nE,h];simp[h1]
 ·rw[oW,h];simp[h1]
theorem mF(m:List UInt8)(host file:ByteArray)(ps:List Pc)(h:pieces m=some ps)(h1:has ps 52=true)(h2:kM (data ps 52)=true)(h3:jZ (m_ (data ps 52)) (yX (data ps 52)) file.data.toList host.data.toList=none):nE m host.data.toList file.data.toList=1:=by
 rw[nE,h];simp[h1,h2,h3]
theorem oG(m:List UInt8)(host file:ByteArray)(ps ms:List Pc)(h:pieces m=some ps)(h1:has ps 52=true)(h2:kM (data ps 52)=true)(h3:jZ (m_ (data ps 52)) (yX (data ps 52)) file.data.toList host.data.toList=some ms)(h4:has ms 52=true):nE m host.data.toList file.data.toList=2:=by
 rw[nE,h];simp[h1,h2,h3,h4]
theorem uC(m:List UInt8)(host file:ByteArray)(ps ms:List Pc)(h:pieces m=some ps)(h1:has ps 52=true)(h2:kM (data ps 52)=true)(h3:jZ (m_ (data ps 52)) (yX (data ps 52)) file.data.toList host.data.toList=some ms)(h4:has ms 52=false):nE m host.data.toList file.data.toList=0/\oW m host.data.toList file.data.toList=gW (drop (gW [] ps) 52) ms:=by
 constructor
 ·rw[nE,h];simp[h1,h2,h3,h4]
 ·rw[oW,h]
  simp only[h1,fE,h3]
  rw[j_,Ey]
  rfl
theorem nL(X m:List Pc)(h:has X 52=false):has (gW X m) 52=has m 52:=by rw[IP,h];rfl
theorem kK{l:List Pc}{c:UInt8}(h:has l c=false):look l c=none:=by
 have q:=Fs l c
 rw[h]at q
 simpa using q
theorem mI{l:List Pc}{c:UInt8}(h:has l c=true):∃d,look l c=some d:=by
 have q:=Fs l c
 rw[h]at q
 exact eZ.1 q
def Fr(w:fV)(b:Nat)(cs:Array Value)(u:fV):Prop:=
 w.heap.size<b/\b<u.heap.size/\u.heap[w.heap.size]?=some (.cells zD_ 127 (0,0))/\u.heap[b]?=some (.cells cs 127 (0,0))/\gm w.heap.size w u
theorem Fr.later{w u u':fV}{b n:Nat}{cs:Array Value}(h:Fr w b cs u)(hb:gm n u u')(hn:u.heap.size<=n):Fr w b cs u':=by
 obtain⟨h1,h2,h3,h4,h5⟩:=h
 exact⟨h1,by have:=hb.size;omega,by rw[hb.block _ (by omega)];exact h3,by rw[hb.block _ (by omega)];exact h4,h5.trans (hb.mono (by omega))⟩
theorem Fr.zero{w u:fV}{b:Nat}{cs:Array Value}(h:Fr w b cs u):u.cell? (a_ w.heap.size 0)=some (.bool false)/\u.cell? (a_ w.heap.size 1)=some (Vb Vf 0)/\u.cell? (a_ w.heap.size 2)=some (Vb Vf 0)/\u.cell? (a_ w.heap.size 3)=some (Vb Vf 0)/\u.cell? (a_ w.heap.size 4)=some (Vb Vf 0)/\u.cell? (a_ w.heap.size 5)=some (Vb Vd 0)/\u.cell? (a_ w.heap.size 6)=some (Vb Vd 0)/\u.cell? (a_ w.heap.size 7)=some (Vb Vd 0)/\u.cell? (a_ w.heap.size 8)=some (Vb Vd 0)/\u.cell? (a_ w.heap.size 9)=some (Vb Vd 0)/\u.cell? (a_ w.heap.size 10)=some (Vb Vd 0)/\u.cell? (a_ w.heap.size 11)=some (.slice none 0 0)/\(∀j,u.frozen? (a_ w.heap.size j)=false):=by
 obtain⟨h1,h2,h3,h4,h5⟩:=h
 exact⟨gP.gD h3 rfl,gP.gD h3 rfl,gP.gD h3 rfl,gP.gD h3 rfl,gP.gD h3 rfl,gP.gD h3 rfl,gP.gD h3 rfl,gP.gD h3 rfl,gP.gD h3 rfl,gP.gD h3 rfl,gP.gD h3 rfl,gP.gD h3 rfl,gP.gM h3⟩
theorem Fr.vals{w u:fV}{b:Nat}{y0 y1 y2 y3 y4 y5 y6 y7 y8 y9 y10:Value}(h:Fr w b #[y0,y1,y2,y3,y4,y5,y6,y7,y8,y9,y10,.slice none 0 0] u):u.cell? (a_ b 0)=some y0/\u.cell? (a_ b 1)=some y1/\u.cell? (a_ b 2)=some y2/\u.cell? (a_ b 3)=some y3/\u.cell? (a_ b 4)=some y4/\u.cell? (a_ b 5)=some y5/\u.cell? (a_ b 6)=some y6/\u.cell? (a_ b 7)=some y7/\u.cell? (a_ b 8)=some y8/\u.cell? (a_ b 9)=some y9/\u.cell? (a_ b 10)=some y10/\u.cell? (a_ b 11)=some (.slice none 0 0)/\(∀j,u.frozen? (a_ b j)=false):=by
 obtain⟨h1,h2,h3,h4,h5⟩:=h
 exact⟨gP.gD h4 rfl,gP.gD h4 rfl,gP.gD h4 rfl,gP.gD h4 rfl,gP.gD h4 rfl,gP.gD h4 rfl,gP.gD h4 rfl,gP.gD h4 rfl,gP.gD h4 rfl,gP.gD h4 rfl,gP.gD h4 rfl,gP.gD h4 rfl,gP.gM h4⟩
theorem Fr.bad{w u:fV}{b:Nat}{cs:Array Value}(h:Fr w b cs u):∃U,U=((((((((((((u.setCell (a_ w.heap.size 0) (.bool false)).setCell (a_ w.heap.size 1) (Vb Vf 0)).setCell (a_ w.heap.size 2) (Vb Vf 0)).setCell (a_ w.heap.size 3) (Vb Vf 0)).setCell (a_ w.heap.size 4) (Vb Vf 0)).setCell (a_ w.heap.size 5) (Vb Vd 0)).setCell (a_ w.heap.size 6) (Vb Vd 0)).setCell (a_ w.heap.size 7) (Vb Vd 0)).setCell (a_ w.heap.size 8) (Vb Vd 0)).setCell (a_ w.heap.size 9) (Vb Vd 0)).setCell (a_ w.heap.size 10) (Vb Vd 0)).setCell (a_ w.heap.size 11) (.slice none 0 0))/\U.cell? (a_ w.heap.size 0)=some (.bool false)/\U.cell? (a_ w.heap.size 1)=some (Vb Vf 0)/\U.cell? (a_ w.heap.size 2)=some (Vb Vf 0)/\U.cell? (a_ w.heap.size 3)=some (Vb Vf 0)/\U.cell? (a_ w.heap.size 4)=some (Vb Vf 0)/\U.cell? (a_ w.heap.size 5)=some (Vb Vd 0)/\U.cell? (a_ w.heap.size 6)=some (Vb Vd 0)/\U.cell? (a_ w.heap.size 7)=some (Vb Vd 0)/\U.cell? (a_ w.heap.size 8)=some (Vb Vd 0)/\U.cell? (a_ w.heap.size 9)=some (Vb Vd 0)/\U.cell? (a_ w.heap.size 10)=some (Vb Vd 0)/\U.cell? (a_ w.heap.size 11)=some (.slice none 0 0)/\gm w.heap.size w U:=by
 obtain⟨h1,h2,h3,h4,h5⟩:=h
 have q:=Lp.oz (t:=127) (g:=w.heap.size) (w:=u) (.bool false) (Vb Vf 0) (Vb Vf 0) (Vb Vf 0) (Vb Vf 0) (Vb Vd 0) (Vb Vd 0) (Vb Vd 0) (Vb Vd 0) (Vb Vd 0) (Vb Vd 0) (.slice none 0 0) (.bool false) (Vb Vf 0) (Vb Vf 0) (Vb Vf 0) (Vb Vf 0) (Vb Vd 0) (Vb Vd 0) (Vb Vd 0) (Vb Vd 0) (Vb Vd 0) (Vb Vd 0) (.slice none 0 0) h3
 refine⟨_,rfl,gP.gD q rfl,gP.gD q rfl,gP.gD q rfl,gP.gD q rfl,gP.gD q rfl,gP.gD q rfl,gP.gD q rfl,gP.gD q rfl,gP.gD q rfl,gP.gD q rfl,gP.gD q rfl,gP.gD q rfl,?_⟩
 iterate 12 refine VT ?_ (by simp) _
 exact h5
theorem Fr.good{w u:fV}{b:Nat}{y0 y1 y2 y3 y4 y5 y6 y7 y8 y9 y10:Value}(v:Value)(h:Fr w b #[y0,y1,y2,y3,y4,y5,y6,y7,y8,y9,y10,.slice none 0 0] u):∃U,U=(((((((((((((u.setCell (a_ b 11) v).setCell (a_ w.heap.size 0) (y0)).setCell (a_ w.heap.size 1) (y1)).setCell (a_ w.heap.size 2) (y2)).setCell (a_ w.heap.size 3) (y3)).setCell (a_ w.heap.size 4) (y4)).setCell (a_ w.heap.size 5) (y5)).setCell (a_ w.heap.size 6) (y6)).setCell (a_ w.heap.size 7) (y7)).setCell (a_ w.heap.size 8) (y8)).setCell (a_ w.heap.size 9) (y9)).setCell (a_ w.heap.size 10) (y10)).setCell (a_ w.heap.size 11) (v))/\U.cell? (a_ w.heap.size 0)=some (y0)/\U.cell? (a_ w.heap.size 1)=some (y1)/\U.cell? (a_ w.heap.size 2)=some (y2)/\U.cell? (a_ w.heap.size 3)=some (y3)/\U.cell? (a_ w.heap.size 4)=some (y4)/\U.cell? (a_ w.heap.size 5)=some (y5)/\U.cell? (a_ w.heap.size 6)=some (y6)/\U.cell? (a_ w.heap.size 7)=some (y7)/\U.cell? (a_ w.heap.size 8)=some (y8)/\U.cell? (a_ w.heap.size 9)=some (y9)/\U.cell? (a_ w.heap.size 10)=some (y10)/\U.cell? (a_ w.heap.size 11)=some (v)/\gm w.heap.size w U/\∀B ls,b<B->Has B u v ls->Has B U v ls:=by
 obtain⟨h1,h2,h3,h4,h5⟩:=h
 have h3':(u.setCell (a_ b 11) v).heap[w.heap.size]?=some (.cells zD_ 127 (0,0)):=by rw[R8 _ _ _ _ (by show w.heap.size≠b;omega)];exact h3
 have q:=Lp.oz (t:=127) (g:=w.heap.size) (w:=u.setCell (a_ b 11) v) (.bool false) (Vb Vf 0) (Vb Vf 0) (Vb Vf 0) (Vb Vf 0) (Vb Vd 0) (Vb Vd 0) (Vb Vd 0) (Vb Vd 0) (Vb Vd 0) (Vb Vd 0) (.slice none 0 0) y0 y1 y2 y3 y4 y5 y6 y7 y8 y9 y10 v h3'
 refine⟨_,rfl,gP.gD q rfl,gP.gD q rfl,gP.gD q rfl,gP.gD q rfl,gP.gD q rfl,gP.gD q rfl,gP.gD q rfl,gP.gD q rfl,gP.gD q rfl,gP.gD q rfl,gP.gD q rfl,gP.gD q rfl,?_,?_⟩
 ·iterate 12 refine VT ?_ (by simp) _
  exact h5.setCell (by show w.heap.size<=b;omega) _
 ·intro B ls hB hH
  iterate 12 refine Has.setCell ?_ (by show w.heap.size<B;omega) _
  exact hH.setCell hB _
end Dh
namespace Dh
open Bs
open Rr (iE jI kX oF)
theorem V8{u:fV}{g:Nat}{t:TypeId}{b0 b1 b2 b3 b4 b5 b6 b7 b8 b9 b10 b11:Value}(h:u.heap[g]?=some (.cells #[b0,b1,b2,b3,b4,b5,b6,b7,b8,b9,b10,b11] t (0,0))):u.cell? ⟨g,0,none⟩=some b0/\u.cell? ⟨g,1,none⟩=some b1/\u.cell? ⟨g,2,none⟩=some b2/\u.cell? ⟨g,3,none⟩=some b3/\u.cell? ⟨g,4,none⟩=some b4/\u.cell? ⟨g,5,none⟩=some b5/\u.cell? ⟨g,6,none⟩=some b6/\u.cell? ⟨g,7,none⟩=some b7/\u.cell? ⟨g,8,none⟩=some b8/\u.cell? ⟨g,9,none⟩=some b9/\u.cell? ⟨g,10,none⟩=some b10/\u.cell? ⟨g,11,none⟩=some b11:=by
 have q:=fun j=>HY u g j _ _ _ h
 exact⟨q 0,q 1,q 2,q 3,q 4,q 5,q 6,q 7,q 8,q 9,q 10,q 11⟩
theorem jF{w u1:fV}(hb:gm ((w.alloc (.cells #[.bool false,Vb Vf 0,Vb Vf 0,Vb Vf 0,Vb Vf 0,Vb Vd 0,Vb Vd 0,Vb Vd 0,Vb Vd 0,Vb Vd 0,Vb Vd 0,.slice none 0 0] 127)).alloc (.cells #[.bool false,Vb Vf 0,Vb Vf 0,Vb Vf 0,Vb Vf 0,Vb Vd 0,Vb Vd 0,Vb Vd 0,Vb Vd 0,Vb Vd 0,Vb Vd 0,.slice none 0 0] 127)).drew.heap.size ((w.alloc (.cells #[.bool false,Vb Vf 0,Vb Vf 0,Vb Vf 0,Vb Vf 0,Vb Vd 0,Vb Vd 0,Vb Vd 0,Vb Vd 0,Vb Vd 0,Vb Vd 0,.slice none 0 0] 127)).alloc (.cells #[.bool false,Vb Vf 0,Vb Vf 0,Vb Vf 0,Vb Vf 0,Vb Vd 0,Vb Vd 0,Vb Vd 0,Vb Vd 0,Vb Vd 0,Vb Vd 0,.slice none 0 0] 127)).drew u1):u1.heap[w.heap.size+1]?=some (.cells #[.bool false,Vb Vf 0,Vb Vf 0,Vb Vf 0,Vb Vf 0,Vb Vd 0,Vb Vd 0,Vb Vd 0,Vb Vd 0,Vb Vd 0,Vb Vd 0,.slice none 0 0] 127 (0,0)):=by
 rw[hb.block _ (by simp)]
 have q:=G8 (w.alloc (.cells #[.bool false,Vb Vf 0,Vb Vf 0,Vb Vf 0,Vb Vf 0,Vb Vd 0,Vb Vd 0,Vb Vd 0,Vb Vd 0,Vb Vd 0,Vb Vd 0,.slice none 0 0] 127)) (.cells #[.bool false,Vb Vf 0,Vb Vf 0,Vb Vf 0,Vb Vf 0,Vb Vd 0,Vb Vd 0,Vb Vd 0,Vb Vd 0,Vb Vd 0,Vb Vd 0,.slice none 0 0] 127)
 rw[show(w.alloc (.cells #[.bool false,Vb Vf 0,Vb Vf 0,Vb Vf 0,Vb Vf 0,Vb Vd 0,Vb Vd 0,Vb Vd 0,Vb Vd 0,Vb Vd 0,Vb Vd 0,.slice none 0 0] 127)).heap.size=w.heap.size+1 by simp]at q
 exact q
theorem mg{w u1:fV}{y0 y1 y2 y3 y4 y5 y6 y7 y8 y9 y10:Value}(hb:gm ((w.alloc (.cells #[.bool false,Vb Vf 0,Vb Vf 0,Vb Vf 0,Vb Vf 0,Vb Vd 0,Vb Vd 0,Vb Vd 0,Vb Vd 0,Vb Vd 0,Vb Vd 0,.slice none 0 0] 127)).alloc (.cells #[.bool false,Vb Vf 0,Vb Vf 0,Vb Vf 0,Vb Vf 0,Vb Vd 0,Vb Vd 0,Vb Vd 0,Vb Vd 0,Vb Vd 0,Vb Vd 0,.slice none 0 0] 127)).drew.heap.size ((w.alloc (.cells #[.bool false,Vb Vf 0,Vb Vf 0,Vb Vf 0,Vb Vf 0,Vb Vd 0,Vb Vd 0,Vb Vd 0,Vb Vd 0,Vb Vd 0,Vb Vd 0,.slice none 0 0] 127)).alloc (.cells #[.bool false,Vb Vf 0,Vb Vf 0,Vb Vf 0,Vb Vf 0,Vb Vd 0,Vb Vd 0,Vb Vd 0,Vb Vd 0,Vb Vd 0,Vb Vd 0,.slice none 0 0] 127)).drew u1):Fr w (w.heap.size+1) #[y0,y1,y2,y3,y4,y5,y6,y7,y8,y9,y10,.slice none 0 0] ((((((((((((u1.setCell ⟨w.heap.size+1,0,none⟩ (y0)).setCell ⟨w.heap.size+1,1,none⟩ (y1)).setCell ⟨w.heap.size+1,2,none⟩ (y2)).setCell ⟨w.heap.size+1,3,none⟩ (y3)).setCell ⟨w.heap.size+1,4,none⟩ (y4)).setCell ⟨w.heap.size+1,5,none⟩ (y5)).setCell ⟨w.heap.size+1,6,none⟩ (y6)).setCell ⟨w.heap.size+1,7,none⟩ (y7)).setCell ⟨w.heap.size+1,8,none⟩ (y8)).setCell ⟨w.heap.size+1,9,none⟩ (y9)).setCell ⟨w.heap.size+1,10,none⟩ (y10)).setCell ⟨w.heap.size+1,11,none⟩ (.slice none 0 0)):=by
 have hz:=hb.size
 have hz2:w.heap.size+1<u1.heap.size:=by simp at hz;omega
 have q:=Lp.oz (t:=127) (g:=w.heap.size+1) (w:=u1) (.bool false) (Vb Vf 0) (Vb Vf 0) (Vb Vf 0) (Vb Vf 0) (Vb Vd 0) (Vb Vd 0) (Vb Vd 0) (Vb Vd 0) (Vb Vd 0) (Vb Vd 0) (.slice none 0 0) y0 y1 y2 y3 y4 y5 y6 y7 y8 y9 y10 (.slice none 0 0) (jF hb)
 refine⟨by omega,?_,?_,q,?_⟩
 ·simp only[World.setCell,Array.size_modify];omega
 ·iterate 12 rw[R8 _ _ _ _ (by show w.heap.size≠w.heap.size+1;omega)]
  rw[hb.block _ (by simp;omega)]
  show((w.alloc (.cells #[.bool false,Vb Vf 0,Vb Vf 0,Vb Vf 0,Vb Vf 0,Vb Vd 0,Vb Vd 0,Vb Vd 0,Vb Vd 0,Vb Vd 0,Vb Vd 0,.slice none 0 0] 127)).alloc (.cells #[.bool false,Vb Vf 0,Vb Vf 0,Vb Vf 0,Vb Vf 0,Vb Vd 0,Vb Vd 0,Vb Vd 0,Vb Vd 0,Vb Vd 0,Vb Vd 0,.slice none 0 0] 127)).heap[w.heap.size]?=_
  rw[Vi _ _ _ (by simp)]
  exact G8 w _
 ·iterate 12 refine VT ?_ (by show w.heap.size<=w.heap.size+1;omega) _
  exact(((R9 _ w).alloc (ai _) _).alloc (by simp) _).drew.trans (hb.mono (by simp;omega))
theorem Gc(d:List UInt8)(h:kM d=false):(d.length≠1)∨∃x,d=[x]/\(x.toNat<1∨3<x.toNat):=by
 match d,h with
 |[],_=>exact au (by decide)
 |[x],h=>
  refine aA ⟨x,rfl,?_⟩
  simp[kM]at h
  omega
 |a::b::r,_=>exact au (by simp)
theorem BJ(d:List UInt8)(h:kM d=true):∃x,d=[x]/\(x.toNat=1∨x.toNat=2∨x.toNat=3):=by
 match d,h with
 |[],h=>cases h
 |[x],h=>
  refine⟨x,rfl,?_⟩
  simp[kM]at h
  omega
 |a::b::r,h=>cases h
theorem zk(x:UInt8)(u:fV):(Instr.index 9 (.string ⟨#[x]⟩) (Vb Vg 0)).run Vh u=.ok (Vb Vd x.toNat) u:=qF ⟨#[x]⟩ 0 x (by show 0<1;omega) rfl 0 rfl u
theorem E8(a0 a1 a2 a3 a4 a5 a6 a7 a8 a9 a10 a11 a12 a13 a14 a15 a16 a17 a18 a19 a20 a21 a22 a23 a24 a25 a26 a27 a28 a29 a30 a31 a32 a33:UInt8)(m m1 m2 m3 m4:List UInt8)(s s1 sh sf sc:ByteArray)(w:fV)(hS:s.data.toList=a0::a1::a2::a3::a4::a5::a6::a7::a8::a9::a10::a11::a12::a13::a14::a15::a16::a17::a18::a19::a20::a21::a22::a23::a24::a25::a26::a27::a28::a29::a30::a31::a32::a33::m)(hs:m4.length<=1048000)(e1:m=s1.data.toList++m1)(e2:m1=sh.data.toList++m2)(e3:m2=sf.data.toList++m3)(e4:m3=sc.data.toList++m4)(z1:s1.size=10)(z2:sh.size=64)(z3:sf.size=128)(z4:sc.size=4)(rp:Bool)(x4:Int)(hx4:x4=(16777216*(a4.toNat:Int)+65536*(a5.toNat:Int)+256*(a6.toNat:Int)+(a7.toNat:Int)))(x12:Int)(hx12:x12=(16777216*(a12.toNat:Int)+65536*(a13.toNat:Int)+256*(a14.toNat:Int)+(a15.toNat:Int)))(x16:Int)(hx16:x16=(16777216*(a16.toNat:Int)+65536*(a17.toNat:Int)+256*(a18.toNat:Int)+(a19.toNat:Int)))(x20:Int)(hx20:x20=(16777216*(a20.toNat:Int)+65536*(a21.toNat:Int)+256*(a22.toNat:Int)+(a23.toNat:Int)))(hne2:((a0.toNat:Int)!=1)=true->((a0.toNat:Int)!=2)=false)(hrp:((a0.toNat:Int)==2)=rp)(h1:a1=1)(h2:a2=6)(hck:sc.data.toList=[99,130,83,99]):
  f_ Vh 70 #[.string s] w fun ee w'=>lV (nE m4 sh.data.toList sf.data.toList) (oW m4 sh.data.toList sf.data.toList) (w.heap.size+2) w (fun v=>.agg #[.bool rp,Vb Vf x4,Vb Vf x12,Vb Vf x16,Vb Vf x20,Vb Vd a28.toNat,Vb Vd a29.toNat,Vb Vd a30.toNat,Vb Vd a31.toNat,Vb Vd a32.toNat,Vb Vd a33.toNat,v]) ee w':=by
 obtain⟨hz,x13,x48,x1216,x1620,x2024,⟨r28,x28⟩,x44,x108,x236,x240⟩:=parts a0 a1 a2 a3 a4 a5 a6 a7 a8 a9 a10 a11 a12 a13 a14 a15 a16 a17 a18 a19 a20 a21 a22 a23 a24 a25 a26 a27 a28 a29 a30 a31 a32 a33 m m1 m2 m3 m4 s s1 sh sf sc hS e1 e2 e3 e4 z1 z2 z3 z4
 have i0:∀u,(Instr.index 9 (.string s) (Vb Vg 0)).run Vh u=.ok (Vb Vd a0.toNat) u:=fun u=>qF s 0 a0 (by omega) (by rw[hS];rfl) 0 rfl u
 have hmx:(s.size:Int)<=9223372036854775807:=by omega
 have k3:(3:Int)<=(s.size:Int):=by omega
 have k4:(4:Int)<=(s.size:Int):=by omega
 have k8:(8:Int)<=(s.size:Int):=by omega
 have k12:(12:Int)<=(s.size:Int):=by omega
 have k16:(16:Int)<=(s.size:Int):=by omega
 have k20:(20:Int)<=(s.size:Int):=by omega
 have k24:(24:Int)<=(s.size:Int):=by omega
 have k28:(28:Int)<=(s.size:Int):=by omega
 have k44:(44:Int)<=(s.size:Int):=by omega
 have k108:(108:Int)<=(s.size:Int):=by omega
 have k236:(236:Int)<=(s.size:Int):=by omega
 have k240:(240:Int)<=(s.size:Int):=by omega
 have k240': ¬(s.size:Int)<240:=by omega
 have O4:Hid (∀u:fV,f_ Vh 102 #[.string (s.extract 4 8)] u fun ee w'=>ee=.returned (Vb Vg x4)/\w'=u):=gu (fun u=>by
  rw[x48,hx4]
  have q:=iE ⟨#[a4,a5,a6,a7]⟩ u (show 4<=4 by omega)
  rw[show jI (⟨#[a4,a5,a6,a7]⟩:ByteArray).data.toList=(16777216*(a4.toNat:Int)+65536*(a5.toNat:Int)+256*(a6.toNat:Int)+(a7.toNat:Int))from by simp[jI];omega]at q
  exact q)
 have I12:Hid (∀u:fV,f_ Vh 103 #[.string (s.extract 12 16)] u fun ee w'=>ee=.returned (Vb Vf x12)/\w'=u):=gu (fun u=>by rw[x1216,hx12];exact kX a12 a13 a14 a15 u)
 have I16:Hid (∀u:fV,f_ Vh 103 #[.string (s.extract 16 20)] u fun ee w'=>ee=.returned (Vb Vf x16)/\w'=u):=gu (fun u=>by rw[x1620,hx16];exact kX a16 a17 a18 a19 u)
 have I20:Hid (∀u:fV,f_ Vh 103 #[.string (s.extract 20 24)] u fun ee w'=>ee=.returned (Vb Vf x20)/\w'=u):=gu (fun u=>by rw[x2024,hx20];exact kX a20 a21 a22 a23 u)
 have M28:Hid (∀u:fV,f_ Vh 101 #[.string (s.extract 28 s.size)] u fun ee w'=>ee=.returned (.agg #[Vb Vd a28.toNat,Vb Vd a29.toNat,Vb Vd a30.toNat,Vb Vd a31.toNat,Vb Vd a32.toNat,Vb Vd a33.toNat])/\gm u.heap.size u w'):=gu (fun u=>by rw[x28];exact oF a28 a29 a30 a31 a32 a33 r28 u)
 have p4:=a4.toNat_lt
 have p5:=a5.toNat_lt
 have p6:=a6.toNat_lt
 have p7:=a7.toNat_lt
 have w4:IntKind.u32.wrap x4=x4:=by rw[IntKind.wrap_u32'];omega
 have hc1:((s.extract 1 3).toList !=[1,6])=false:=by rw[x13,h1,h2,Vw];rfl
 have hc1':((s.extract 1 3).toList==[1,6])=true:=by rw[x13,h1,h2,Vw];rfl
 have hc2:((s.extract 236 240).toList !=[99,130,83,99])=false:=by rw[x236,Vw,hck];rfl
 have hc2':((s.extract 236 240).toList==[99,130,83,99])=true:=by rw[x236,Vw,hck];rfl
 have HZF:Hid (sf.data.toList.length<=128):=gu (by rw[aF];show sf.size<=_;omega)
 have HZH:Hid (sh.data.toList.length<=128):=gu (by rw[aF];show sh.size<=_;omega)
 have HOP:=gu (fun u v ls (b:Nat) (hb:b<=u.heap.size) (hH:Has b u v ls) (hl:heavy ls<=2097152)=>mG v ls (s.extract 240 s.size) m4 u b hb (by rw[x240]) hH hl (by omega))
 have HOF:=gu (fun u v ls (b:Nat) (hb:b<=u.heap.size) (hH:Has b u v ls) (hl:heavy ls<=2097152)=>mG v ls (s.extract 108 236) sf.data.toList u b hb (by rw[x108]) hH hl (by rw[aF];show sf.size<=_;omega))
 have HOH:=gu (fun u v ls (b:Nat) (hb:b<=u.heap.size) (hH:Has b u v ls) (hl:heavy ls<=2097152)=>mG v ls (s.extract 44 108) sh.data.toList u b hb (by rw[x44]) hH hl (by rw[aF];show sh.size<=_;omega))
 clear hS hz e1 e2 e3 e4 z1 z2 z3 z4 x13 x48 x1216 x1620 x2024 x28 x44 x108 x236 x240 hx4 hx12 hx16 hx20 hck h1 h2 p4 p5 p6 p7
 go_enter func70,ntmps70
 refine bT (fun K hK=> ?_)
 go_cut [2,3] (fun v2 v3 wc=>v2=.pointer (some ⟨w.heap.size,0,none⟩)/\v3=Vb Vg 0/\wc=w.alloc (.cells #[.bool false,Vb Vf 0,Vb Vf 0,Vb Vf 0,Vb Vf 0,Vb Vd 0,Vb Vd 0,Vb Vd 0,Vb Vd 0,Vb Vd 0,Vb Vd 0,.slice none 0 0] 127))
 case first=>
  go_wp2
  go_meet
  exact⟨rfl,rfl,rfl⟩
 case rest=>
  obtain⟨rfl,rfl,rfl⟩:=hcut
  refine hK _ _ ?_
  clear hK K
  refine bT (fun K hK=> ?_)
  go_cut [3] (fun v3 wc=>v3=Vb Vg 0/\wc=w.alloc (.cells #[.bool false,Vb Vf 0,Vb Vf 0,Vb Vf 0,Vb Vf 0,Vb Vd 0,Vb Vd 0,Vb Vd 0,Vb Vd 0,Vb Vd 0,Vb Vd 0,.slice none 0 0] 127))
  case first=>
   go_wp2
   go_meet
   exact⟨rfl,rfl⟩
  case rest=>
   obtain⟨rfl,rfl⟩:=hcut
   refine hK _ _ ?_
   clear hK K
   refine bT (fun K hK=> ?_)
   go_cut [3] (fun v3 wc=>v3=Vb Vg 0/\wc=w.alloc (.cells #[.bool false,Vb Vf 0,Vb Vf 0,Vb Vf 0,Vb Vf 0,Vb Vd 0,Vb Vd 0,Vb Vd 0,Vb Vd 0,Vb Vd 0,Vb Vd 0,.slice none 0 0] 127))
   case first=>
    cases hne1:((a0.toNat:Int)!=1)with
    |false=>
     go_wp2
     go_meet
     exact⟨rfl,rfl⟩
    |true=>
     have hne3:=hne2 hne1
     go_wp2
     go_meet
     exact⟨rfl,rfl⟩
   case rest=>
    obtain⟨rfl,rfl⟩:=hcut
    refine hK _ _ ?_
    clear hK K hne2
    go_wp2
    go_cut [3,4] (fun v3 v4 wc=>v3=Vb Vg 0/\∃b,v4=.pointer (some ⟨b,0,none⟩)/\Hid (Fr w b #[.bool rp,Vb Vf x4,Vb Vf x12,Vb Vf x16,Vb Vf x20,Vb Vd a28.toNat,Vb Vd a29.toNat,Vb Vd a30.toNat,Vb Vd a31.toNat,Vb Vd a32.toNat,Vb Vd a33.toNat,.slice none 0 0] wc))
    case first=>
      refine V5 (by kernel_rfl) ?_
      change wpAny _ _ _ _ _ _ _ (World.drew _)
      refine wpAny_take (i:=0) (v:=.string s) rfl (by kernel_rfl) (by kernel_rfl) (by kernel_rfl) (fun _ _ _ h=>h) (au ⟨by rfl,?_⟩) ?_
      ·intro u;go_simp
      try simp only[Act.put,ae,ah,af]
      refine wpAny_take (i:=1) (v:=Vb Vd a0.toNat) rfl (by kernel_rfl) (by kernel_rfl) (by kernel_rfl) (fun _ _ _ h=>h) (au ⟨by rfl,?_⟩) ?_
      ·intro u;go_simp
      try simp only[Act.put,ae,ah,af]
      refine wpAny_take (i:=2) (v:=.bool rp) rfl (by kernel_rfl) (by kernel_rfl) (by kernel_rfl) (fun _ _ _ h=>h) (au ⟨by rfl,?_⟩) ?_
      ·intro u;go_simp
      try simp only[Act.put,ae,ah,af]
      refine wpAny_take (i:=3) (v:=.string s) rfl (by kernel_rfl) (by kernel_rfl) (by kernel_rfl) (fun _ _ _ h=>h) (au ⟨by rfl,?_⟩) ?_
      ·intro u;go_simp
      try simp only[Act.put,ae,ah,af]
      refine wpAny_take (i:=4) (v:=.string (s.extract 4 8)) rfl (by kernel_rfl) (by kernel_rfl) (by kernel_rfl) (fun _ _ _ h=>h) (au ⟨by rfl,?_⟩) ?_
      ·intro u;go_simp
      try simp only[Act.put,ae,ah,af]
      refine wpAny_take (i:=7) (v:=.string s) rfl (by kernel_rfl) (by kernel_rfl) (by kernel_rfl) (fun _ _ _ h=>h) (au ⟨by rfl,?_⟩) ?_
      ·intro u;go_simp
      try simp only[Act.put,ae,ah,af]
      refine wpAny_take (i:=8) (v:=.string (s.extract 12 16)) rfl (by kernel_rfl) (by kernel_rfl) (by kernel_rfl) (fun _ _ _ h=>h) (au ⟨by rfl,?_⟩) ?_
      ·intro u;go_simp
      try simp only[Act.put,ae,ah,af]
      refine wpAny_take (i:=10) (v:=.string s) rfl (by kernel_rfl) (by kernel_rfl) (by kernel_rfl) (fun _ _ _ h=>h) (au ⟨by rfl,?_⟩) ?_
      ·intro u;go_simp
      try simp only[Act.put,ae,ah,af]
      refine wpAny_take (i:=11) (v:=.string (s.extract 16 20)) rfl (by kernel_rfl) (by kernel_rfl) (by kernel_rfl) (fun _ _ _ h=>h) (au ⟨by rfl,?_⟩) ?_
      ·intro u;go_simp
      try simp only[Act.put,ae,ah,af]
      refine wpAny_take (i:=13) (v:=.string s) rfl (by kernel_rfl) (by kernel_rfl) (by kernel_rfl) (fun _ _ _ h=>h) (au ⟨by rfl,?_⟩) ?_
      ·intro u;go_simp
      try simp only[Act.put,ae,ah,af]
      refine wpAny_take (i:=14) (v:=.string (s.extract 20 24)) rfl (by kernel_rfl) (by kernel_rfl) (by kernel_rfl) (fun _ _ _ h=>h) (au ⟨by rfl,?_⟩) ?_
      ·intro u;go_simp
      try simp only[Act.put,ae,ah,af]
      refine wpAny_take (i:=16) (v:=.string s) rfl (by kernel_rfl) (by kernel_rfl) (by kernel_rfl) (fun _ _ _ h=>h) (au ⟨by rfl,?_⟩) ?_
      ·intro u;go_simp
      try simp only[Act.put,ae,ah,af]
      refine wpAny_take (i:=17) (v:=.string (s.extract 28 s.size)) rfl (by kernel_rfl) (by kernel_rfl) (by kernel_rfl) (fun _ _ _ h=>h) (au ⟨by rfl,?_⟩) ?_
      ·intro u;go_simp
      try simp only[Act.put,ae,ah,af]
      all_goals first
       |(refine Vt (rs:=[5,20]) (by decide+kernel) (by simp) ?_;refine Vn rfl (fun K hK=> ?_) (Vn rfl (fun K hK=> ?_) Vq))
       |(refine Vt (rs:=[5]) (by decide+kernel) (by simp) ?_;refine Vn rfl (fun K hK=> ?_) Vq)
      all_goals go_simp
      all_goals first
       |(refine(gB O4 _).mono ?_;rintro ee u2 ⟨rfl,hu⟩;rw[hu];clear hu u2;refine hK _ _ ?_;clear hK K;(try simp only[Act.put,ae,ah,af]))
       |(refine hK _ _ ?_;clear hK K;(try simp only[Act.put,ae,ah,af]);refine Vt (rs:=[5]) (by kernel_rfl) (by simp) ?_;refine Vn rfl (fun K hK=> ?_) Vq;go_simp;refine(gB O4 _).mono ?_;rintro ee u2 ⟨rfl,hu⟩;rw[hu];clear hu u2;refine hK _ _ ?_;clear hK K;(try simp only[Act.put,ae,ah,af]))
      all_goals
       refine wpAny_take (i:=6) (v:=Vb Vf x4) rfl (by kernel_rfl) (by kernel_rfl) (by kernel_rfl) (fun _ _ _ h=>h) (au ⟨by rfl,?_⟩) ?_
       ·intro u;go_simp
       try simp only[Act.put,ae,ah,af]
      all_goals first
       |(refine Vt (rs:=[9,20]) (by decide+kernel) (by simp) ?_;refine Vn rfl (fun K hK=> ?_) (Vn rfl (fun K hK=> ?_) Vq))
       |(refine Vt (rs:=[9]) (by decide+kernel) (by simp) ?_;refine Vn rfl (fun K hK=> ?_) Vq)
      all_goals go_simp
      all_goals first
       |(refine(gB I12 _).mono ?_;rintro ee u2 ⟨rfl,hu⟩;rw[hu];clear hu u2;refine hK _ _ ?_;clear hK K;(try simp only[Act.put,ae,ah,af]))
       |(refine hK _ _ ?_;clear hK K;(try simp only[Act.put,ae,ah,af]);refine Vt (rs:=[9]) (by kernel_rfl) (by simp) ?_;refine Vn rfl (fun K hK=> ?_) Vq;go_simp;refine(gB I12 _).mono ?_;rintro ee u2 ⟨rfl,hu⟩;rw[hu];clear hu u2;refine hK _ _ ?_;clear hK K;(try simp only[Act.put,ae,ah,af]))
      all_goals first
       |(refine Vt (rs:=[12,20]) (by decide+kernel) (by simp) ?_;refine Vn rfl (fun K hK=> ?_) (Vn rfl (fun K hK=> ?_) Vq))
       |(refine Vt (rs:=[12]) (by decide+kernel) (by simp) ?_;refine Vn rfl (fun K hK=> ?_) Vq)
      all_goals go_simp
      all_goals first
       |(refine(gB I16 _).mono ?_;rintro ee u2 ⟨rfl,hu⟩;rw[hu];clear hu u2;refine hK _ _ ?_;clear hK K;(try simp only[Act.put,ae,ah,af]))
       |(refine hK _ _ ?_;clear hK K;(try simp only[Act.put,ae,ah,af]);refine Vt (rs:=[12]) (by kernel_rfl) (by simp) ?_;refine Vn rfl (fun K hK=> ?_) Vq;go_simp;refine(gB I16 _).mono ?_;rintro ee u2 ⟨rfl,hu⟩;rw[hu];clear hu u2;refine hK _ _ ?_;clear hK K;(try simp only[Act.put,ae,ah,af]))
      all_goals first
       |(refine Vt (rs:=[15,20]) (by decide+kernel) (by simp) ?_;refine Vn rfl (fun K hK=> ?_) (Vn rfl (fun K hK=> ?_) Vq))
       |(refine Vt (rs:=[15]) (by decide+kernel) (by simp) ?_;refine Vn rfl (fun K hK=> ?_) Vq)
      all_goals go_simp
      all_goals first
       |(refine(gB I20 _).mono ?_;rintro ee u2 ⟨rfl,hu⟩;rw[hu];clear hu u2;refine hK _ _ ?_;clear hK K;(try simp only[Act.put,ae,ah,af]))
       |(refine hK _ _ ?_;clear hK K;(try simp only[Act.put,ae,ah,af]);refine Vt (rs:=[15]) (by kernel_rfl) (by simp) ?_;refine Vn rfl (fun K hK=> ?_) Vq;go_simp;refine(gB I20 _).mono ?_;rintro ee u2 ⟨rfl,hu⟩;rw[hu];clear hu u2;refine hK _ _ ?_;clear hK K;(try simp only[Act.put,ae,ah,af]))
      all_goals first
       |(refine Vt (rs:=[18,20]) (by decide+kernel) (by simp) ?_;refine Vn rfl (fun K hK=> ?_) (Vn rfl (fun K hK=> ?_) Vq))
       |(refine Vt (rs:=[18]) (by decide+kernel) (by simp) ?_;refine Vn rfl (fun K hK=> ?_) Vq)
      all_goals go_simp
      ·refine(gB M28 _).mono ?_
       rintro ee u1 ⟨rfl,hb1⟩
       refine hK _ _ ?_
       clear hK K
       try simp only[Act.put,ae,ah,af]
       refine wpAny_take (i:=19) (v:=.agg #[.bool rp,Vb Vf x4,Vb Vf x12,Vb Vf x16,Vb Vf x20,Vb Vd a28.toNat,Vb Vd a29.toNat,Vb Vd a30.toNat,Vb Vd a31.toNat,Vb Vd a32.toNat,Vb Vd a33.toNat,.slice none 0 0]) rfl (by kernel_rfl) (by kernel_rfl) (by kernel_rfl) (fun _ _ _ h=>h) (au ⟨by rfl,?_⟩) ?_
       ·intro u;go_simp
       try simp only[Act.put,ae,ah,af]
       refine Vt (rs:=[20]) (by kernel_rfl) (by simp) ?_
       refine Vn rfl (fun K hK=> ?_) Vq
       go_simp
       refine hK _ _ ?_
       clear hK K
       try simp only[Act.put,ae,ah,af]
       refine Vt (rs:=[21]) (by kernel_rfl) (by simp) ?_
       refine Vn rfl (fun K hK=> ?_) Vq
       go_simp
       refine hK _ _ ?_
       clear hK K
       try simp only[Act.put,ae,ah,af]
       refine wpAny_done (by kernel_rfl) ?_ _
       go_wp2
       go_meet
       refine⟨rfl,u1.heap.size,rfl,gu ⟨?_,by simp,?_,?_,?_⟩⟩
       ·have:=hb1.size;simp at this;omega
       ·rw[Vi _ _ _ (by have:=hb1.size;simp at this;omega),hb1.block _ (by simp)];exact G8 w _
       ·exact G8 u1 _
       ·exact(((R9 _ w).alloc (ai _) _).drew.trans (hb1.mono (by simp))).alloc (by have:=hb1.size;simp at this;omega) _
      refine hK _ _ ?_
      clear hK K
      try simp only[Act.put,ae,ah,af]
      refine Vt (rs:=[18]) (by kernel_rfl) (by simp) ?_
      refine Vn rfl (fun K hK=> ?_) Vq
      go_simp
      all_goals
       refine(gB M28 _).mono ?_
       rintro ee u1 ⟨rfl,hb1⟩
       have hzb:u1.heap[w.heap.size+1]?=some (.cells #[.bool false,Vb Vf 0,Vb Vf 0,Vb Vf 0,Vb Vf 0,Vb Vd 0,Vb Vd 0,Vb Vd 0,Vb Vd 0,Vb Vd 0,Vb Vd 0,.slice none 0 0] 127 (0,0)):=jF hb1
       obtain⟨zc0,zc1,zc2,zc3,zc4,zc5,zc6,zc7,zc8,zc9,zc10,zc11⟩:=V8 hzb
       have zf:=gP.gM hzb
       refine hK _ _ ?_
       clear hK K
       try simp only[Act.put,ae,ah,af]
       refine wpAny_take (i:=19) (v:=.agg #[.bool rp,Vb Vf x4,Vb Vf x12,Vb Vf x16,Vb Vf x20,Vb Vd a28.toNat,Vb Vd a29.toNat,Vb Vd a30.toNat,Vb Vd a31.toNat,Vb Vd a32.toNat,Vb Vd a33.toNat,.slice none 0 0]) rfl (by kernel_rfl) (by kernel_rfl) (by kernel_rfl) (fun _ _ _ h=>h) (au ⟨by rfl,?_⟩) ?_
       ·intro u;go_simp
       try simp only[Act.put,ae,ah,af]
       refine Vt (rs:=[21]) (by kernel_rfl) (by simp) ?_
       refine Vn rfl (fun K hK=> ?_) Vq
       go_simp
       refine hK _ _ ?_
       clear hK K
       try simp only[Act.put,ae,ah,af]
       refine wpAny_done (by kernel_rfl) ?_ _
       go_wp2
       go_meet
       exact⟨rfl,w.heap.size+1,rfl,gu (mg hb1)⟩
    case rest=>
     obtain⟨rfl,b,rfl,HF⟩:=hcut
     rename fV=>wc
     have hwb:w.heap.size<b:=(gB HF).1
     have hbc:b<wc.heap.size:=(gB HF).2.1
     have hnb: ¬w.heap.size=b:=by omega
     have hnb2: ¬b=w.heap.size:=by omega
     obtain⟨B,hB⟩:∃B,B=wc.heap.size:=⟨_,rfl⟩
     have hBb:b<B:=by omega
     have HB:=gu hB
     have HO1:=gu (gB HOP wc (.slice none 0 0) [] B (Nat.le_of_eq hB) (au ⟨rfl,rfl⟩) (by simp[heavy]))
     clear hB hbc HOP
     try clear i0
     go_wp2_with fail
     refine(gB HO1).mono ?_
     rintro ee w1 ⟨hbw1,hres⟩
     have HF1:=gu ((gB HF).later hbw1 (ai _))
     have hBw1:B<=w1.heap.size:=by rw[gB HB];exact hbw1.size
     clear hbw1 HF HO1 HB
     cases hp:pieces m4 with
     |none=>
      rw[hp]at hres
      simp only at hres
      subst hres
      obtain⟨zc0,zc1,zc2,zc3,zc4,zc5,zc6,zc7,zc8,zc9,zc10,zc11,zf⟩:=(gB HF1).zero
      obtain⟨U,hU,u0,u1,u2,u3,u4,u5,u6,u7,u8,u9,u10,u11,hUB⟩:=(gB HF1).bad
      have HUB:=gu hUB
      have HKE:=gu (xe m4 sh sf hp)
      clear hUB
      go_wp2
      rw[<-hU]
      refine Vl (v:=.tuple #[.agg #[.bool false,Vb Vf 0,Vb Vf 0,Vb Vf 0,Vb Vf 0,Vb Vd 0,Vb Vd 0,Vb Vd 0,Vb Vd 0,Vb Vd 0,Vb Vd 0,.slice none 0 0],Vb Vg 1]) (by simp[results,bi,go_sem,u0,u1,u2,u3,u4,u5,u6,u7,u8,u9,u10,u11]) rfl ?_
      unfold lV;rw[gB HKE];exact⟨gB HUB,by rw[ax (by decide)];rfl⟩
     |some ps=>
      rw[hp]at hres
      obtain⟨v1,rfl,hv1⟩:=hres
      have hph:=iQ _ m4 ps (ai _) hp
      have hq0:heavy ([]:List Pc)=0:=rfl
      have hLh:=jd ps []
      obtain⟨L1,hL1⟩:∃L,L=gW [] ps:=⟨_,rfl⟩
      rw[<-hL1]at hv1 hLh
      have hLl:L1.length<=heavy L1:=by unfold heavy;omega
      have hLm:heavy L1<=1048000:=by omega
      clear hph hLh hq0
      obtain⟨a1,c1,rfl,hA1⟩:=hv1.slice
      have HV1:=gu hv1
      have HP:=gu hp
      have HL1:=gu hL1
      clear hv1 hp
      cases hh:has ps 52 with
      |false=>
       have hlk:look L1 52=none:=by rw[hL1,wS,hh];rfl
       have hot:=kg a1 c1 L1 w1 hA1 (by omega)
       rw[hlk]at hot
       simp only[dx,bZ]at hot
       have HOT:=gu hot
       have HK0:=gu (Ch m4 sh sf ps (gB HP) hh)
       rw[<-hL1]at HK0
       clear hot hlk hA1 hL1 hh
       go_wp2_with fail
       refine(gB HOT).mono ?_
       rintro ee w2 ⟨rfl,hbw2⟩
       have HF2:=gu ((gB HF1).later hbw2 (ai _))
       have HV2:=gu ((gB HV1).below hbw2 (ai _))
       clear hbw2
       obtain⟨zc0,zc1,zc2,zc3,zc4,zc5,zc6,zc7,zc8,zc9,zc10,zc11,zf⟩:=(gB HF2).zero
       obtain⟨bc0,bc1,bc2,bc3,bc4,bc5,bc6,bc7,bc8,bc9,bc10,bc11,bf⟩:=(gB HF2).vals
       obtain⟨U,hU,u0,u1,u2,u3,u4,u5,u6,u7,u8,u9,u10,u11,hUB,hUH⟩:=(gB HF2).good (.slice a1 L1.length c1)
       have HUB:=gu hUB;have HUH:=gu (hUH B _ hBb (gB HV2));have HKE:=gu (gB HK0)
       clear hUB hUH
       go_wp2
       rw[<-hU]
       refine Vl (v:=.tuple #[.agg #[.bool rp,Vb Vf x4,Vb Vf x12,Vb Vf x16,Vb Vf x20,Vb Vd a28.toNat,Vb Vd a29.toNat,Vb Vd a30.toNat,Vb Vd a31.toNat,Vb Vd a32.toNat,Vb Vd a33.toNat,(.slice a1 L1.length c1)],Vb Vg 0]) (by simp[results,bi,go_sem,u0,u1,u2,u3,u4,u5,u6,u7,u8,u9,u10,u11]) rfl ?_
       unfold lV;rw[(gB HKE).1,ay rfl];refine⟨gB HUB,_,rfl,?_⟩
       rw[(gB HKE).2];exact(gB HUH).mono (by omega)
      |true=>
       obtain⟨d,hd⟩:∃d,d=data ps 52:=⟨_,rfl⟩
       have hlk:look L1 52=some d:=by rw[hL1,wS,hh,hd];rfl
       obtain⟨sd,hsd⟩:∃sd:ByteArray,sd=⟨d.toArray⟩:=⟨_,rfl⟩
       have hot:=kg a1 c1 L1 w1 hA1 (by omega)
       rw[hlk]at hot
       simp only[cz,V3,<-hsd]at hot
       have HOT:=gu hot
       have HHH:=gu hh
       have HDD:=gu hd
       clear hot hlk hL1 hh
       go_wp2_with fail
       refine(gB HOT).mono ?_
       rintro ee w2 ⟨rfl,hbw2⟩
       have HF2:=gu ((gB HF1).later hbw2 (ai _))
       have HA2:=gu (hA1.below hbw2 (ai _))
       have hBw2:B<=w2.heap.size:=aG hBw1 hbw2.size
       clear hbw2 hA1 HOT HF1 HV1
       cases ha:kM d with
       |false=>
        have HK2:=gu (zT m4 sh sf ps (gB HP) (gB HHH) (by rw[<-gB HDD];exact ha))
        rcases Gc d ha with hl|⟨x,hx,hxx⟩
        ·have hne:(((sd.size:Nat):Int)!=1)=true:=by
          have q:sd.size=d.length:=by rw[hsd];simp[ByteArray.size]
          simp only[fH,ne_eq];omega
         clear hsd hd hl ha
         obtain⟨zc0,zc1,zc2,zc3,zc4,zc5,zc6,zc7,zc8,zc9,zc10,zc11,zf⟩:=(gB HF2).zero
         obtain⟨U,hU,u0,u1,u2,u3,u4,u5,u6,u7,u8,u9,u10,u11,hUB⟩:=(gB HF2).bad
         have HUB:=gu hUB
         have HKE:=gu (gB HK2)
         clear hUB
         go_wp2
         rw[<-hU]
         refine Vl (v:=.tuple #[.agg #[.bool false,Vb Vf 0,Vb Vf 0,Vb Vf 0,Vb Vf 0,Vb Vd 0,Vb Vd 0,Vb Vd 0,Vb Vd 0,Vb Vd 0,Vb Vd 0,.slice none 0 0],Vb Vg 2]) (by simp[results,bi,go_sem,u0,u1,u2,u3,u4,u5,u6,u7,u8,u9,u10,u11]) rfl ?_
         unfold lV;rw[gB HKE];exact⟨gB HUB,by rw[ax (by decide)];rfl⟩
        ·have hss:sd=⟨#[x]⟩:=by rw[hsd,hx]
         have hne:(((sd.size:Nat):Int)!=1)=false:=by rw[hss];rfl
         have ix:∀u,(Instr.index 9 (.string sd) (Vb Vg 0)).run Vh u=.ok (Vb Vd x.toNat) u:=fun u=>by rw[hss];exact zk x u
         have hs0:(0:Int)<((sd.size:Nat):Int):=by rw[hss];show(0:Int)<1;omega
         clear hsd hd ha hx hss
         rcases hxx with hx1|hx3
         ·have y1:decide (((x.toNat:Nat):Int)<1)=true:=by simp;omega
          obtain⟨zc0,zc1,zc2,zc3,zc4,zc5,zc6,zc7,zc8,zc9,zc10,zc11,zf⟩:=(gB HF2).zero
          obtain⟨U,hU,u0,u1,u2,u3,u4,u5,u6,u7,u8,u9,u10,u11,hUB⟩:=(gB HF2).bad
          have HUB:=gu hUB
          have HKE:=gu (gB HK2)
          clear hUB
          go_wp2
          rw[<-hU]
          refine Vl (v:=.tuple #[.agg #[.bool false,Vb Vf 0,Vb Vf 0,Vb Vf 0,Vb Vf 0,Vb Vd 0,Vb Vd 0,Vb Vd 0,Vb Vd 0,Vb Vd 0,Vb Vd 0,.slice none 0 0],Vb Vg 2]) (by simp[results,bi,go_sem,u0,u1,u2,u3,u4,u5,u6,u7,u8,u9,u10,u11]) rfl ?_
          unfold lV;rw[gB HKE];exact⟨gB HUB,by rw[ax (by decide)];rfl⟩
         ·have y1:decide (((x.toNat:Nat):Int)<1)=false:=by simp;omega
          have y3:decide ((3:Int)<((x.toNat:Nat):Int))=true:=by simp;omega
          obtain⟨zc0,zc1,zc2,zc3,zc4,zc5,zc6,zc7,zc8,zc9,zc10,zc11,zf⟩:=(gB HF2).zero
          obtain⟨U,hU,u0,u1,u2,u3,u4,u5,u6,u7,u8,u9,u10,u11,hUB⟩:=(gB HF2).bad
          have HUB:=gu hUB
          have HKE:=gu (gB HK2)
          clear hUB
          go_wp2
          rw[<-hU]
          refine Vl (v:=.tuple #[.agg #[.bool false,Vb Vf 0,Vb Vf 0,Vb Vf 0,Vb Vf 0,Vb Vd 0,Vb Vd 0,Vb Vd 0,Vb Vd 0,Vb Vd 0,Vb Vd 0,.slice none 0 0],Vb Vg 2]) (by simp[results,bi,go_sem,u0,u1,u2,u3,u4,u5,u6,u7,u8,u9,u10,u11]) rfl ?_
          unfold lV;rw[gB HKE];exact⟨gB HUB,by rw[ax (by decide)];rfl⟩
       |true=>
        obtain⟨x,hx,hxx⟩:=BJ d ha
        have hss:sd=⟨#[x]⟩:=by rw[hsd,hx]
        have hne:(((sd.size:Nat):Int)!=1)=false:=by rw[hss];rfl
        have ix:∀u,(Instr.index 9 (.string sd) (Vb Vg 0)).run Vh u=.ok (Vb Vd x.toNat) u:=fun u=>by rw[hss];exact zk x u
        have y1:decide (((x.toNat:Nat):Int)<1)=false:=by simp;omega
        have y3:decide ((3:Int)<((x.toNat:Nat):Int))=false:=by simp;omega
        have HDX:=gu hx
        have HAD:=gu ha
        obtain⟨i0,hi,hz0,hz1,hz2⟩:=Vx lM
        clear hsd hd ha hx hss
        go_wp2
        go_loopw [9,92] (fun v9 i wr=>∃k:Nat,k<=L1.length/\i=Vb Vg k/\(drop (L1.take k) 52).length<=k/\Hid (wr.ownsRow w2.heap.size 151 2 v9 (drop (L1.take k) 52).length (gT (drop (L1.take k) 52)))/\Hid (gm w2.heap.size w2 wr)) (fun _ i _=>L1.length-(intOf i).toNat)
        case atStart=>exact⟨0,aN _,rfl,ai _,gu (Vp _ _ _ _),gu (R9 _ _)⟩
        case round=>
         obtain⟨k,hk,rfl,hdk,HO,HW⟩:=hrel
         rename fV=>wr
         have hwz:=(gB HW).size
         by_cases hlt:k<L1.length
         ·obtain⟨ad,rfl,c0,c1⟩:=(gB HA2).below (gB HW) (ai _) k hlt
          obtain⟨oc,od,hcd⟩:∃x y,L1[k]=(x,y):=⟨_,_,rfl⟩
          have hdt:=drop_take L1 52 k hlt
          rw[hcd]at c0 c1 hdt
          simp only at c0 c1 hdt
          have HD:=gu hdt
          clear hcd hdt
          by_cases e:oc=52
          ·have q:(((oc.toNat:Nat):Int)!=52)=false:=by rw[e];rfl
           rw[ay e,bn]at HD
           clear e
           go_wp2
           go_roundw
           case rel=>exact⟨k+1,by omega,by go_num,by rw[gB HD];omega,gu (by rw[gB HD];exact(gB HO).alloc _),gu ((gB HW).alloc hwz _)⟩
           case measure=>simp[intOf];omega
          ·have q:(((oc.toNat:Nat):Int)!=52)=true:=by
            have q1:=toNat_eq oc 52
            have q2:(((52:UInt8).toNat:Nat):Int)=52:=rfl
            rw[q2]at q1
            rw[bne,q1];simpa using e
           rw[ax e]at HD
           clear e
           go_wp2_with (at_builtin;refine Vv _ rfl (.tmp 99) (.tmp 101) 125 rfl w2.heap.size 151 i0 (.agg #[Vb Vd 0,.string ⟨#[]⟩]) 2 24 bW hi hz0 hz1 hz2 rfl (by decide) _ _ _ rfl (((gB HO).alloc _).alloc _) ⟨wr.heap.size+1,0,none⟩ 1 1 [Vb Vd oc.toNat,.string ⟨od.toArray⟩] rfl rfl ?c1 ?one ?h63 ?hby ?hba ?_)
           case c1=>
            have q:=iW (wr.alloc (.cells #[Vb Vd oc.toNat,.string ⟨od.toArray⟩] 151)) [Vb Vd oc.toNat,.string ⟨od.toArray⟩] 151
            simpa using q
           case one=>intro u hu;simp at hu;rcases hu with rfl|rfl<;>rfl
           case h63=>simp only[maxLen];omega
           case hby=>omega
           case hba=>simp;omega
           ·intro v' w3 hown hg _
            have hnew:∀x,Value.ownBlock _=some x->w2.heap.size<=x:=fun x hx=>((gB HO).lt x hx).1
            have hB3:gm w2.heap.size w2 w3:=(((gB HW).alloc hwz _).alloc (by simp;omega) _).grown hg (by simp;omega) hnew
            have hO3:w3.ownsRow w2.heap.size 151 2 v' (drop (L1.take (k+1)) 52).length (gT (drop (L1.take (k+1)) 52)):=by
             rw[gB HD,ak,iV];exact hown
            have O1:=gu hO3
            have B1:=gu hB3
            clear hown hg hnew hB3 hO3
            go_wp2
            go_roundw
            case rel=>exact⟨k+1,by omega,by go_num,by rw[gB HD,ak,aj,aP];omega,O1,B1⟩
            case measure=>simp[intOf];omega
         ·have e:k=L1.length:=by omega
          subst e
          rw[aS]at HO
          have hXh:=uR 52 L1
          have HXN:=gu (EG 52 L1)
          obtain⟨X,hX⟩:∃X,X=drop L1 52:=⟨_,rfl⟩
          rw[<-hX]at HO hXh HXN
          obtain⟨a9,c9,hv⟩:=ib (gB HO)
          subst hv
          have HX9:Hid (Has B wr (.slice a9 X.length c9) X):=gu ((Has.own (gB HO)).mono hBw2)
          have HF3:=gu ((gB HF2).later (gB HW) (ai _))
          have hBw3:B<=wr.heap.size:=aG hBw2 hwz
          have hXD:Hid (∀m,gW X m=gW (drop (gW [] ps) 52) m):=gu (fun m=>by rw[hX,gB HL1])
          clear hX HO HW HF2 HA2 hi hz0 hz1 hz2 hlt hk hdk
          rcases hxx with hx1|hx1|hx1
          ·rw[hx1]at ix y1 y3
           have HINF:Hid (m_ (data ps 52)=true/\yX (data ps 52)=false/\kM (data ps 52)=true):=gu (by rw[<-gB HDD,gB HDX];refine⟨by simp[m_,hx1],by simp[yX,hx1],?_⟩;rw[<-gB HDX];exact gB HAD)
           clear hx1
           have HOF1:=gu (gB HOF wr (.slice a9 X.length c9) X B hBw3 (gB HX9) (by omega))
           go_wp2_with fail
           refine(gB HOF1).mono ?_
           rintro ee wF1 ⟨hbF1,hres⟩
           have HFF1:=gu ((gB HF3).later hbF1 (ai _))
           have hBwF1:B<=wF1.heap.size:=aG hBw3 hbF1.size
           clear hbF1 HOF1
           cases hpF1:pieces sf.data.toList with
           |none=>
            rw[hpF1]at hres
            simp only at hres
            subst hres
            have HPF:=gu hpF1
            obtain⟨zc0,zc1,zc2,zc3,zc4,zc5,zc6,zc7,zc8,zc9,zc10,zc11,zf⟩:=(gB HFF1).zero
            obtain⟨U,hU,u0,u1,u2,u3,u4,u5,u6,u7,u8,u9,u10,u11,hUB⟩:=(gB HFF1).bad
            have HUB:=gu hUB
            have HKE:=gu (mF m4 sh sf ps (gB HP) (gB HHH) (gB HINF).2.2 (by rw[(gB HINF).1,(gB HINF).2.1];simp[jZ,gB HPF]))
            clear hUB
            go_wp2
            rw[<-hU]
            refine Vl (v:=.tuple #[.agg #[.bool false,Vb Vf 0,Vb Vf 0,Vb Vf 0,Vb Vf 0,Vb Vd 0,Vb Vd 0,Vb Vd 0,Vb Vd 0,Vb Vd 0,Vb Vd 0,.slice none 0 0],Vb Vg 1]) (by simp[results,bi,go_sem,u0,u1,u2,u3,u4,u5,u6,u7,u8,u9,u10,u11]) rfl ?_
            unfold lV;rw[gB HKE];exact⟨gB HUB,by rw[ax (by decide)];rfl⟩
           |some qF1=>
            rw[hpF1]at hres
            obtain⟨vF1,rfl,hvF1⟩:=hres
            have HPF:=gu hpF1
            have hqF1:=iQ _ sf.data.toList qF1 (ai _) hpF1
            have hsF1:sf.data.toList.length<=128:=gB HZF
            have hYF1:=jd qF1 X
            have HXF1:=gu (nL X qF1)
            obtain⟨YF1,hY⟩:∃Y,Y=gW X qF1:=⟨_,rfl⟩
            rw[<-hY]at hvF1 hYF1 HXF1
            have HYF1:=gu hY
            obtain⟨aF1,cF1,rfl,hAF1⟩:=hvF1.slice
            have HVF1:=gu hvF1
            have HAF1:=gu hAF1
            clear hvF1 hpF1 hY hAF1
            have hLF1:YF1.length<=heavy YF1:=by unfold heavy;omega
            have hhm:has YF1 52=has qF1 52:=gB HXF1 (gB HXN)
            have hYa:YF1=gW (drop (gW [] ps) 52) qF1:=(gB HYF1).trans (gB hXD _)
            have hot:=kg aF1 cF1 YF1 wF1 (gB HAF1) (by omega)
            have HYA:=gu hYa
            clear hYa
            cases hm:has qF1 52 with
            |true=>
             obtain⟨d2,hd2⟩:=mI (hhm.trans hm)
             rw[hd2]at hot
             simp only[cz,V3]at hot
             obtain⟨sd2,hsd2⟩:∃sd:ByteArray,sd=⟨d2.toArray⟩:=⟨_,rfl⟩
             rw[<-hsd2]at hot
             have HOT:=gu hot
             have HMM:=gu hm
             clear hot hd2 hsd2 hhm hm
             go_wp2_with fail
             refine(gB HOT).mono ?_
             rintro ee w9 ⟨rfl,hb9⟩
             have HF9:=gu ((gB HFF1).later hb9 (ai _))
             clear hb9
             obtain⟨zc0,zc1,zc2,zc3,zc4,zc5,zc6,zc7,zc8,zc9,zc10,zc11,zf⟩:=(gB HF9).zero
             obtain⟨U,hU,u0,u1,u2,u3,u4,u5,u6,u7,u8,u9,u10,u11,hUB⟩:=(gB HF9).bad
             have HUB:=gu hUB
             have HKE:=gu (oG m4 sh sf ps qF1 (gB HP) (gB HHH) (gB HINF).2.2 (by rw[(gB HINF).1,(gB HINF).2.1];simp[jZ,gB HPF]) (gB HMM))
             clear hUB
             go_wp2
             rw[<-hU]
             refine Vl (v:=.tuple #[.agg #[.bool false,Vb Vf 0,Vb Vf 0,Vb Vf 0,Vb Vf 0,Vb Vd 0,Vb Vd 0,Vb Vd 0,Vb Vd 0,Vb Vd 0,Vb Vd 0,.slice none 0 0],Vb Vg 2]) (by simp[results,bi,go_sem,u0,u1,u2,u3,u4,u5,u6,u7,u8,u9,u10,u11]) rfl ?_
             unfold lV;rw[gB HKE];exact⟨gB HUB,by rw[ax (by decide)];rfl⟩
            |false=>
             have hd2:=kK (hhm.trans hm)
             rw[hd2]at hot
             simp only[dx,bZ]at hot
             have HOT:=gu hot
             have HMM:=gu hm
             clear hot hd2 hhm hm
             go_wp2_with fail
             refine(gB HOT).mono ?_
             rintro ee w9 ⟨rfl,hb9⟩
             have HF9:=gu ((gB HFF1).later hb9 (ai _))
             have HV9:=gu ((gB HVF1).below hb9 (ai _))
             have HK9:=uC m4 sh sf ps qF1 (gB HP) (gB HHH) (gB HINF).2.2 (by rw[(gB HINF).1,(gB HINF).2.1];simp[jZ,gB HPF]) (gB HMM)
             rw[<-gB HYA]at HK9
             have HK8:=gu HK9
             clear hb9 HK9
             obtain⟨zc0,zc1,zc2,zc3,zc4,zc5,zc6,zc7,zc8,zc9,zc10,zc11,zf⟩:=(gB HF9).zero
             obtain⟨bc0,bc1,bc2,bc3,bc4,bc5,bc6,bc7,bc8,bc9,bc10,bc11,bf⟩:=(gB HF9).vals
             obtain⟨U,hU,u0,u1,u2,u3,u4,u5,u6,u7,u8,u9,u10,u11,hUB,hUH⟩:=(gB HF9).good (.slice aF1 YF1.length cF1)
             have HUB:=gu hUB;have HUH:=gu (hUH B _ hBb (gB HV9));have HKE:=gu (gB HK8)
             clear hUB hUH
             go_wp2
             rw[<-hU]
             refine Vl (v:=.tuple #[.agg #[.bool rp,Vb Vf x4,Vb Vf x12,Vb Vf x16,Vb Vf x20,Vb Vd a28.toNat,Vb Vd a29.toNat,Vb Vd a30.toNat,Vb Vd a31.toNat,Vb Vd a32.toNat,Vb Vd a33.toNat,(.slice aF1 YF1.length cF1)],Vb Vg 0]) (by simp[results,bi,go_sem,u0,u1,u2,u3,u4,u5,u6,u7,u8,u9,u10,u11]) rfl ?_
             unfold lV;rw[(gB HKE).1,ay rfl];refine⟨gB HUB,_,rfl,?_⟩
             rw[(gB HKE).2];exact(gB HUH).mono (by omega)
          ·rw[hx1]at ix y1 y3
           have HINF:Hid (m_ (data ps 52)=false/\yX (data ps 52)=true/\kM (data ps 52)=true):=gu (by rw[<-gB HDD,gB HDX];refine⟨by simp[m_,hx1],by simp[yX,hx1],?_⟩;rw[<-gB HDX];exact gB HAD)
           clear hx1
           have HOH2:=gu (gB HOH wr (.slice a9 X.length c9) X B hBw3 (gB HX9) (by omega))
           go_wp2_with fail
           refine(gB HOH2).mono ?_
           rintro ee wH2 ⟨hbH2,hres⟩
           have HFH2:=gu ((gB HF3).later hbH2 (ai _))
           have hBwH2:B<=wH2.heap.size:=aG hBw3 hbH2.size
           clear hbH2 HOH2
           cases hpH2:pieces sh.data.toList with
           |none=>
            rw[hpH2]at hres
            simp only at hres
            subst hres
            have HPH:=gu hpH2
            obtain⟨zc0,zc1,zc2,zc3,zc4,zc5,zc6,zc7,zc8,zc9,zc10,zc11,zf⟩:=(gB HFH2).zero
            obtain⟨U,hU,u0,u1,u2,u3,u4,u5,u6,u7,u8,u9,u10,u11,hUB⟩:=(gB HFH2).bad
            have HUB:=gu hUB
            have HKE:=gu (mF m4 sh sf ps (gB HP) (gB HHH) (gB HINF).2.2 (by rw[(gB HINF).1,(gB HINF).2.1];simp[jZ,gB HPH]))
            clear hUB
            go_wp2
            rw[<-hU]
            refine Vl (v:=.tuple #[.agg #[.bool false,Vb Vf 0,Vb Vf 0,Vb Vf 0,Vb Vf 0,Vb Vd 0,Vb Vd 0,Vb Vd 0,Vb Vd 0,Vb Vd 0,Vb Vd 0,.slice none 0 0],Vb Vg 1]) (by simp[results,bi,go_sem,u0,u1,u2,u3,u4,u5,u6,u7,u8,u9,u10,u11]) rfl ?_
            unfold lV;rw[gB HKE];exact⟨gB HUB,by rw[ax (by decide)];rfl⟩
           |some qH2=>
            rw[hpH2]at hres
            obtain⟨vH2,rfl,hvH2⟩:=hres
            have HPH:=gu hpH2
            have hqH2:=iQ _ sh.data.toList qH2 (ai _) hpH2
            have hsH2:sh.data.toList.length<=128:=gB HZH
            have hYH2:=jd qH2 X
            have HXH2:=gu (nL X qH2)
            obtain⟨YH2,hY⟩:∃Y,Y=gW X qH2:=⟨_,rfl⟩
            rw[<-hY]at hvH2 hYH2 HXH2
            have HYH2:=gu hY
            obtain⟨aH2,cH2,rfl,hAH2⟩:=hvH2.slice
            have HVH2:=gu hvH2
            have HAH2:=gu hAH2
            clear hvH2 hpH2 hY hAH2
            have hLH2:YH2.length<=heavy YH2:=by unfold heavy;omega
            have hhm:has YH2 52=has qH2 52:=gB HXH2 (gB HXN)
            have hYa:YH2=gW (drop (gW [] ps) 52) qH2:=(gB HYH2).trans (gB hXD _)
            have hot:=kg aH2 cH2 YH2 wH2 (gB HAH2) (by omega)
            have HYA:=gu hYa
            clear hYa
            cases hm:has qH2 52 with
            |true=>
             obtain⟨d2,hd2⟩:=mI (hhm.trans hm)
             rw[hd2]at hot
             simp only[cz,V3]at hot
             obtain⟨sd2,hsd2⟩:∃sd:ByteArray,sd=⟨d2.toArray⟩:=⟨_,rfl⟩
             rw[<-hsd2]at hot
             have HOT:=gu hot
             have HMM:=gu hm
             clear hot hd2 hsd2 hhm hm
             go_wp2_with fail
             refine(gB HOT).mono ?_
             rintro ee w9 ⟨rfl,hb9⟩
             have HF9:=gu ((gB HFH2).later hb9 (ai _))
             clear hb9
             obtain⟨zc0,zc1,zc2,zc3,zc4,zc5,zc6,zc7,zc8,zc9,zc10,zc11,zf⟩:=(gB HF9).zero
             obtain⟨U,hU,u0,u1,u2,u3,u4,u5,u6,u7,u8,u9,u10,u11,hUB⟩:=(gB HF9).bad
             have HUB:=gu hUB
             have HKE:=gu (oG m4 sh sf ps qH2 (gB HP) (gB HHH) (gB HINF).2.2 (by rw[(gB HINF).1,(gB HINF).2.1];simp[jZ,gB HPH]) (gB HMM))
             clear hUB
             go_wp2
             rw[<-hU]
             refine Vl (v:=.tuple #[.agg #[.bool false,Vb Vf 0,Vb Vf 0,Vb Vf 0,Vb Vf 0,Vb Vd 0,Vb Vd 0,Vb Vd 0,Vb Vd 0,Vb Vd 0,Vb Vd 0,.slice none 0 0],Vb Vg 2]) (by simp[results,bi,go_sem,u0,u1,u2,u3,u4,u5,u6,u7,u8,u9,u10,u11]) rfl ?_
             unfold lV;rw[gB HKE];exact⟨gB HUB,by rw[ax (by decide)];rfl⟩
            |false=>
             have hd2:=kK (hhm.trans hm)
             rw[hd2]at hot
             simp only[dx,bZ]at hot
             have HOT:=gu hot
             have HMM:=gu hm
             clear hot hd2 hhm hm
             go_wp2_with fail
             refine(gB HOT).mono ?_
             rintro ee w9 ⟨rfl,hb9⟩
             have HF9:=gu ((gB HFH2).later hb9 (ai _))
             have HV9:=gu ((gB HVH2).below hb9 (ai _))
             have HK9:=uC m4 sh sf ps qH2 (gB HP) (gB HHH) (gB HINF).2.2 (by rw[(gB HINF).1,(gB HINF).2.1];simp[jZ,gB HPH]) (gB HMM)
             rw[<-gB HYA]at HK9
             have HK8:=gu HK9
             clear hb9 HK9
             obtain⟨zc0,zc1,zc2,zc3,zc4,zc5,zc6,zc7,zc8,zc9,zc10,zc11,zf⟩:=(gB HF9).zero
             obtain⟨bc0,bc1,bc2,bc3,bc4,bc5,bc6,bc7,bc8,bc9,bc10,bc11,bf⟩:=(gB HF9).vals
             obtain⟨U,hU,u0,u1,u2,u3,u4,u5,u6,u7,u8,u9,u10,u11,hUB,hUH⟩:=(gB HF9).good (.slice aH2 YH2.length cH2)
             have HUB:=gu hUB;have HUH:=gu (hUH B _ hBb (gB HV9));have HKE:=gu (gB HK8)
             clear hUB hUH
             go_wp2
             rw[<-hU]
             refine Vl (v:=.tuple #[.agg #[.bool rp,Vb Vf x4,Vb Vf x12,Vb Vf x16,Vb Vf x20,Vb Vd a28.toNat,Vb Vd a29.toNat,Vb Vd a30.toNat,Vb Vd a31.toNat,Vb Vd a32.toNat,Vb Vd a33.toNat,(.slice aH2 YH2.length cH2)],Vb Vg 0]) (by simp[results,bi,go_sem,u0,u1,u2,u3,u4,u5,u6,u7,u8,u9,u10,u11]) rfl ?_
             unfold lV;rw[(gB HKE).1,ay rfl];refine⟨gB HUB,_,rfl,?_⟩
             rw[(gB HKE).2];exact(gB HUH).mono (by omega)
          ·rw[hx1]at ix y1 y3
           have HINF:Hid (m_ (data ps 52)=true/\yX (data ps 52)=true/\kM (data ps 52)=true):=gu (by rw[<-gB HDD,gB HDX];refine⟨by simp[m_,hx1],by simp[yX,hx1],?_⟩;rw[<-gB HDX];exact gB HAD)
           clear hx1
           have HOF3:=gu (gB HOF wr (.slice a9 X.length c9) X B hBw3 (gB HX9) (by omega))
           go_wp2_with fail
           refine(gB HOF3).mono ?_
           rintro ee wF3 ⟨hbF3,hres⟩
           have HFF3:=gu ((gB HF3).later hbF3 (ai _))
           have hBwF3:B<=wF3.heap.size:=aG hBw3 hbF3.size
           clear hbF3 HOF3
           cases hpF3:pieces sf.data.toList with
           |none=>
            rw[hpF3]at hres
            simp only at hres
            subst hres
            have HPF:=gu hpF3
            obtain⟨zc0,zc1,zc2,zc3,zc4,zc5,zc6,zc7,zc8,zc9,zc10,zc11,zf⟩:=(gB HFF3).zero
            obtain⟨U,hU,u0,u1,u2,u3,u4,u5,u6,u7,u8,u9,u10,u11,hUB⟩:=(gB HFF3).bad
            have HUB:=gu hUB
            have HKE:=gu (mF m4 sh sf ps (gB HP) (gB HHH) (gB HINF).2.2 (by rw[(gB HINF).1,(gB HINF).2.1];simp[jZ,gB HPF]))
            clear hUB
            go_wp2
            rw[<-hU]
            refine Vl (v:=.tuple #[.agg #[.bool false,Vb Vf 0,Vb Vf 0,Vb Vf 0,Vb Vf 0,Vb Vd 0,Vb Vd 0,Vb Vd 0,Vb Vd 0,Vb Vd 0,Vb Vd 0,.slice none 0 0],Vb Vg 1]) (by simp[results,bi,go_sem,u0,u1,u2,u3,u4,u5,u6,u7,u8,u9,u10,u11]) rfl ?_
            unfold lV;rw[gB HKE];exact⟨gB HUB,by rw[ax (by decide)];rfl⟩
           |some qF3=>
            rw[hpF3]at hres
            obtain⟨vF3,rfl,hvF3⟩:=hres
            have HPF:=gu hpF3
            have hqF3:=iQ _ sf.data.toList qF3 (ai _) hpF3
            have hsF3:sf.data.toList.length<=128:=gB HZF
            have hYF3:=jd qF3 X
            have HXF3:=gu (nL X qF3)
            obtain⟨YF3,hY⟩:∃Y,Y=gW X qF3:=⟨_,rfl⟩
            rw[<-hY]at hvF3 hYF3 HXF3
            have HYF3:=gu hY
            obtain⟨aF3,cF3,rfl,hAF3⟩:=hvF3.slice
            have HVF3:=gu hvF3
            have HAF3:=gu hAF3
            clear hvF3 hpF3 hY hAF3
            have hLF3:YF3.length<=heavy YF3:=by unfold heavy;omega
            have HOH3:=gu (gB HOH wF3 (.slice aF3 YF3.length cF3) YF3 B hBwF3 (gB HVF3) (by omega))
            go_wp2_with fail
            refine(gB HOH3).mono ?_
            rintro ee wH3 ⟨hbH3,hres⟩
            have HFH3:=gu ((gB HFF3).later hbH3 (ai _))
            have hBwH3:B<=wH3.heap.size:=aG hBwF3 hbH3.size
            clear hbH3 HOH3
            cases hpH3:pieces sh.data.toList with
            |none=>
             rw[hpH3]at hres
             simp only at hres
             subst hres
             have HPH:=gu hpH3
             obtain⟨zc0,zc1,zc2,zc3,zc4,zc5,zc6,zc7,zc8,zc9,zc10,zc11,zf⟩:=(gB HFH3).zero
             obtain⟨U,hU,u0,u1,u2,u3,u4,u5,u6,u7,u8,u9,u10,u11,hUB⟩:=(gB HFH3).bad
             have HUB:=gu hUB
             have HKE:=gu (mF m4 sh sf ps (gB HP) (gB HHH) (gB HINF).2.2 (by rw[(gB HINF).1,(gB HINF).2.1];simp[jZ,gB HPF,gB HPH]))
             clear hUB
             go_wp2
             rw[<-hU]
             refine Vl (v:=.tuple #[.agg #[.bool false,Vb Vf 0,Vb Vf 0,Vb Vf 0,Vb Vf 0,Vb Vd 0,Vb Vd 0,Vb Vd 0,Vb Vd 0,Vb Vd 0,Vb Vd 0,.slice none 0 0],Vb Vg 1]) (by simp[results,bi,go_sem,u0,u1,u2,u3,u4,u5,u6,u7,u8,u9,u10,u11]) rfl ?_
             unfold lV;rw[gB HKE];exact⟨gB HUB,by rw[ax (by decide)];rfl⟩
            |some qH3=>
             rw[hpH3]at hres
             obtain⟨vH3,rfl,hvH3⟩:=hres
             have HPH:=gu hpH3
             have hqH3:=iQ _ sh.data.toList qH3 (ai _) hpH3
             have hsH3:sh.data.toList.length<=128:=gB HZH
             have hYH3:=jd qH3 YF3
             have HXH3:=gu (nL YF3 qH3)
             obtain⟨YH3,hY⟩:∃Y,Y=gW YF3 qH3:=⟨_,rfl⟩
             rw[<-hY]at hvH3 hYH3 HXH3
             have HYH3:=gu hY
             obtain⟨aH3,cH3,rfl,hAH3⟩:=hvH3.slice
             have HVH3:=gu hvH3
             have HAH3:=gu hAH3
             clear hvH3 hpH3 hY hAH3
             have hLH3:YH3.length<=heavy YH3:=by unfold heavy;omega
             have hhm:has YH3 52=has (qF3++qH3) 52:=by rw[gB HYH3,gB HYF3,<-j_];exact nL X _ (gB HXN)
             have hYa:YH3=gW (drop (gW [] ps) 52) (qF3++qH3):=by rw[gB HYH3,gB HYF3,<-j_];exact gB hXD _
             have hot:=kg aH3 cH3 YH3 wH3 (gB HAH3) (by omega)
             have HYA:=gu hYa
             clear hYa
             cases hm:has (qF3++qH3) 52 with
             |true=>
              obtain⟨d2,hd2⟩:=mI (hhm.trans hm)
              rw[hd2]at hot
              simp only[cz,V3]at hot
              obtain⟨sd2,hsd2⟩:∃sd:ByteArray,sd=⟨d2.toArray⟩:=⟨_,rfl⟩
              rw[<-hsd2]at hot
              have HOT:=gu hot
              have HMM:=gu hm
              clear hot hd2 hsd2 hhm hm
              go_wp2_with fail
              refine(gB HOT).mono ?_
              rintro ee w9 ⟨rfl,hb9⟩
              have HF9:=gu ((gB HFH3).later hb9 (ai _))
              clear hb9
              obtain⟨zc0,zc1,zc2,zc3,zc4,zc5,zc6,zc7,zc8,zc9,zc10,zc11,zf⟩:=(gB HF9).zero
              obtain⟨U,hU,u0,u1,u2,u3,u4,u5,u6,u7,u8,u9,u10,u11,hUB⟩:=(gB HF9).bad
              have HUB:=gu hUB
              have HKE:=gu (oG m4 sh sf ps (qF3++qH3) (gB HP) (gB HHH) (gB HINF).2.2 (by rw[(gB HINF).1,(gB HINF).2.1];simp[jZ,gB HPF,gB HPH]) (gB HMM))
              clear hUB
              go_wp2
              rw[<-hU]
              refine Vl (v:=.tuple #[.agg #[.bool false,Vb Vf 0,Vb Vf 0,Vb Vf 0,Vb Vf 0,Vb Vd 0,Vb Vd 0,Vb Vd 0,Vb Vd 0,Vb Vd 0,Vb Vd 0,.slice none 0 0],Vb Vg 2]) (by simp[results,bi,go_sem,u0,u1,u2,u3,u4,u5,u6,u7,u8,u9,u10,u11]) rfl ?_
              unfold lV;rw[gB HKE];exact⟨gB HUB,by rw[ax (by decide)];rfl⟩
             |false=>
              have hd2:=kK (hhm.trans hm)
              rw[hd2]at hot
              simp only[dx,bZ]at hot
              have HOT:=gu hot
              have HMM:=gu hm
              clear hot hd2 hhm hm
              go_wp2_with fail
              refine(gB HOT).mono ?_
              rintro ee w9 ⟨rfl,hb9⟩
              have HF9:=gu ((gB HFH3).later hb9 (ai _))
              have HV9:=gu ((gB HVH3).below hb9 (ai _))
              have HK9:=uC m4 sh sf ps (qF3++qH3) (gB HP) (gB HHH) (gB HINF).2.2 (by rw[(gB HINF).1,(gB HINF).2.1];simp[jZ,gB HPF,gB HPH]) (gB HMM)
              rw[<-gB HYA]at HK9
              have HK8:=gu HK9
              clear hb9 HK9
              obtain⟨zc0,zc1,zc2,zc3,zc4,zc5,zc6,zc7,zc8,zc9,zc10,zc11,zf⟩:=(gB HF9).zero
              obtain⟨bc0,bc1,bc2,bc3,bc4,bc5,bc6,bc7,bc8,bc9,bc10,bc11,bf⟩:=(gB HF9).vals
              obtain⟨U,hU,u0,u1,u2,u3,u4,u5,u6,u7,u8,u9,u10,u11,hUB,hUH⟩:=(gB HF9).good (.slice aH3 YH3.length cH3)
              have HUB:=gu hUB;have HUH:=gu (hUH B _ hBb (gB HV9));have HKE:=gu (gB HK8)
              clear hUB hUH
              go_wp2
              rw[<-hU]
              refine Vl (v:=.tuple #[.agg #[.bool rp,Vb Vf x4,Vb Vf x12,Vb Vf x16,Vb Vf x20,Vb Vd a28.toNat,Vb Vd a29.toNat,Vb Vd a30.toNat,Vb Vd a31.toNat,Vb Vd a32.toNat,Vb Vd a33.toNat,(.slice aH3 YH3.length cH3)],Vb Vg 0]) (by simp[results,bi,go_sem,u0,u1,u2,u3,u4,u5,u6,u7,u8,u9,u10,u11]) rfl ?_
              unfold lV;rw[(gB HKE).1,ay rfl];refine⟨gB HUB,_,rfl,?_⟩
              rw[(gB HKE).2];exact(gB HUH).mono (by omega)
end Dh
end Go.Proofs.YtbhbbeebncmaiaaGreatDoor
