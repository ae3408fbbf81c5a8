import Derived.Test.YtbhbbeebncmaiaaGreatDoorMgZ14
import Derived.Test.YtbhbbeebncmaiaaGreatDoorMgZ13
import Derived.Test.YtbhbbeebncmaiaaGreatDoorMgZ21
namespace Go.Proofs.YtbhbbeebncmaiaaGreatDoor.Dh
open Go.ChangeShapes Go.WideShapes Go.ChangeAt Go.RowKit Bs
open Rr (of_any ofL ipOf_any macOf_all)
set_option linter.unusedVariables false
set_option linter.unusedSimpArgs false
theorem ext_of (s:ByteArray) (l:List UInt8) (hs:s.data.toList=l) (a b:Nat):s.extract a b=⟨((l.drop a).take (b - a)).toArray⟩:=by
 apply ByteArray.ext
 rw [ByteArray.data_extract]
 apply Array.ext'
 rw [Array.toList_extract,hs]
theorem drop_pre {a b:List UInt8} {n:Nat} (h:a.length=n) (k:Nat):(a++b).drop (n+k)=b.drop k:=by
 rw [← h,List.drop_append]
 simp
theorem take_pre {a b:List UInt8} {n:Nat} (h:a.length=n):(a++b).take n=a:=by rw [← h,List.take_left]
theorem parts (a0 a1 a2 a3 a4 a5 a6 a7 a8 a9 a10 a11 a12 a13 a14 a15 a16 a17 a18 a19 a20 a21 a22 a23 a24 a25 a26 a27 a28 a29 a30 a31 a32 a33:UInt8) (m m1 m2 m3 m4:List UInt8) (s s1 sh sf sc:ByteArray) (hS:s.data.toList=a0::a1::a2::a3::a4::a5::a6::a7::a8::a9::a10::a11::a12::a13::a14::a15::a16::a17::a18::a19::a20::a21::a22::a23::a24::a25::a26::a27::a28::a29::a30::a31::a32::a33::m) (e1:m=s1.data.toList++m1) (e2:m1=sh.data.toList++m2) (e3:m2=sf.data.toList++m3) (e4:m3=sc.data.toList++m4) (z1:s1.size=10) (z2:sh.size=64) (z3:sf.size=128) (z4:sc.size=4) :
  s.size=240+m4.length∧s.extract 1 3=⟨#[a1,a2]⟩∧s.extract 4 8=⟨#[a4,a5,a6,a7]⟩∧s.extract 12 16=⟨#[a12,a13,a14,a15]⟩∧s.extract 16 20=⟨#[a16,a17,a18,a19]⟩∧s.extract 20 24=⟨#[a20,a21,a22,a23]⟩∧(∃ r,s.extract 28 s.size=⟨(a28::a29::a30::a31::a32::a33::r).toArray⟩) ∧
   s.extract 44 108=sh∧s.extract 108 236=sf∧s.extract 236 240=sc∧s.extract 240 s.size=⟨m4.toArray⟩:=by
 obtain ⟨l0,l1,l2,l3⟩:=lens e1 e2 e3 e4 z1 z2 z3 z4
 have y1:s1.data.toList.length=10:=by rw [Array.length_toList]; exact z1
 have y2:sh.data.toList.length=64:=by rw [Array.length_toList]; exact z2
 have y3:sf.data.toList.length=128:=by rw [Array.length_toList]; exact z3
 have y4:sc.data.toList.length=4:=by rw [Array.length_toList]; exact z4
 have hz:s.size=240+m4.length:=by
  have q:s.data.toList.length=s.size:=by rw [Array.length_toList]; rfl
  rw [← q,hS]; simp only [List.length_cons]; omega
 have d34:∀ k,s.data.toList.drop (34+k)=m.drop k:=fun k=>by rw [hS,Nat.add_comm]; rfl
 have f44:s.data.toList.drop 44=m1:=by rw [d34 10,e1,drop_pre (k:=0) y1]; rfl
 have f108:s.data.toList.drop 108=m2:=by
  rw [show (108:Nat)=44+64 from rfl,← List.drop_drop,f44,e2,drop_pre (k:=0) y2]; rfl
 have f236:s.data.toList.drop 236=m3:=by
  rw [show (236:Nat)=108+128 from rfl,← List.drop_drop,f108,e3,drop_pre (k:=0) y3]; rfl
 have f240:s.data.toList.drop 240=m4:=by
  rw [show (240:Nat)=236+4 from rfl,← List.drop_drop,f236,e4,drop_pre (k:=0) y4]; rfl
 refine ⟨hz,?_,?_,?_,?_,?_,⟨m,?_⟩,?_,?_,?_,?_⟩
 ·rw [ext_of s _ hS]; rfl
 ·rw [ext_of s _ hS]; rfl
 ·rw [ext_of s _ hS]; rfl
 ·rw [ext_of s _ hS]; rfl
 ·rw [ext_of s _ hS]; rfl
 ·rw [ext_of s _ rfl 28 s.size,List.take_of_length_le (by rw [List.length_drop,Array.length_toList]; show s.size - 28≤_; omega),hS]; rfl
 ·rw [ext_of s _ rfl 44 108,f44,e2,show 108 - 44=64 from rfl,take_pre y2]
 ·rw [ext_of s _ rfl 108 236,f108,e3,show 236 - 108=128 from rfl,take_pre y3]
 ·rw [ext_of s _ rfl 236 240,f236,e4,show 240 - 236=4 from rfl,take_pre y4]
 ·rw [ext_of s _ rfl 240 s.size,f240,List.take_of_length_le (by omega)]

set_option maxRecDepth 10000 in
theorem ref_short (s:ByteArray) (w:World) (hs:s.size<240) :
  Calls Tryz.prog 70 #[.string s] w fun ee w'=>ee=.returned (.tuple #[.agg #[.bool false,.int .u32 0,.int .u32 0,.int .u32 0,.int .u32 0,.int .u8 0,.int .u8 0,.int .u8 0,.int .u8 0,.int .u8 0,.int .u8 0,.slice none 0 0],.int .i64 1])∧Below w.heap.size w w':=by
 go_enter Tryz.func70,Tryz.ntmps70
 go_wp2
 exact bodyPost_ret (v:=.tuple #[.agg #[.bool false,.int .u32 0,.int .u32 0,.int .u32 0,.int .u32 0,.int .u8 0,.int .u8 0,.int .u8 0,.int .u8 0,.int .u8 0,.int .u8 0,.slice none 0 0],.int .i64 1]) (by simp [results,Tryz.results70,go_sem]) rfl ⟨rfl,(Below.refl _ _).alloc (Nat.le_refl _) _⟩
def RefP (k:Nat) (L:List Pc) (b:Nat) (w:World) (mk:Value→Value) (e:Ending) (w':World):Prop :=
 Below w.heap.size w w'∧(if k=0 then ∃ v,e=.returned (.tuple #[mk v,.int .i64 0])∧Has b w' v L else e=.returned (.tuple #[.agg #[.bool false,.int .u32 0,.int .u32 0,.int .u32 0,.int .u32 0,.int .u8 0,.int .u8 0,.int .u8 0,.int .u8 0,.int .u8 0,.int .u8 0,.slice none 0 0],.int .i64 k]))

end Go.Proofs.YtbhbbeebncmaiaaGreatDoor.Dh
namespace Go.Proofs.YtbhbbeebncmaiaaGreatDoor.Dh
open Go.ChangeShapes Go.WideShapes Go.ChangeAt Go.RowKit Bs
set_option linter.unusedVariables false
set_option linter.unusedSimpArgs false
theorem heavy_addAll (ps:List Pc):∀ l,heavy (addAll l ps)≤heavy l+heavy ps:=by
 induction ps with
 | nil=>intro l; show heavy l≤_; omega
 | cons p r ih =>
  intro l
  have q:=ih (add l p)
  have q2:=add_heavy l p
  have q3:=heavy_cons p r
  have q4:addAll l (p::r)=addAll (add l p) r:=rfl
  rw [q4]; omega
theorem heavy_drop (c:UInt8) (l:List Pc):heavy (drop l c)≤heavy l:=by
 induction l with
 | nil=>exact Nat.le_refl _
 | cons p r ih =>
  have q3:=heavy_cons p r
  unfold drop at ih ⊢
  rw [List.filter_cons]
  split
  ·rw [heavy_cons]; omega
  ·omega
theorem has_drop (c:UInt8) (l:List Pc):has (drop l c) c=false:=by
 induction l with
 | nil=>rfl
 | cons p r ih =>
  unfold drop at ih ⊢
  rw [List.filter_cons]
  split
  ·rename_i h
   rw [has_cons,ih]
   simpa [bne] using h
  ·exact ih
theorem look_all (ps:List Pc) (c:UInt8):look (addAll [] ps) c=if has ps c then some (data ps c) else none:=by
 rw [look_addAll]
 have:look [] c=none:=rfl
 rw [this]
 cases has ps c <;> simp
theorem opt_plain (m:List UInt8) (host file:ByteArray) (ps:List Pc) (h:pieces m=some ps) (h1:has ps 52=false):optK m host.data.toList file.data.toList=0∧optL m host.data.toList file.data.toList=addAll [] ps:=by
 constructor
 ·rw [optK,h]; simp [h1]
 ·rw [optL,h]; simp [h1]
theorem opt_short (m:List UInt8) (host file:ByteArray) (ps:List Pc) (h:pieces m=some ps) (h1:has ps 52=true) (h2:areaD (data ps 52)=true) (h3:moreP (inF (data ps 52)) (inH (data ps 52)) file.data.toList host.data.toList=none):optK m host.data.toList file.data.toList=1:=by
 rw [optK,h]; simp [h1,h2,h3]
theorem opt_twice (m:List UInt8) (host file:ByteArray) (ps ms:List Pc) (h:pieces m=some ps) (h1:has ps 52=true) (h2:areaD (data ps 52)=true) (h3:moreP (inF (data ps 52)) (inH (data ps 52)) file.data.toList host.data.toList=some ms) (h4:has ms 52=true):optK m host.data.toList file.data.toList=2:=by
 rw [optK,h]; simp [h1,h2,h3,h4]
theorem opt_all (m:List UInt8) (host file:ByteArray) (ps ms:List Pc) (h:pieces m=some ps) (h1:has ps 52=true) (h2:areaD (data ps 52)=true) (h3:moreP (inF (data ps 52)) (inH (data ps 52)) file.data.toList host.data.toList=some ms) (h4:has ms 52=false):optK m host.data.toList file.data.toList=0∧optL m host.data.toList file.data.toList=addAll (drop (addAll [] ps) 52) ms:=by
 constructor
 ·rw [optK,h]; simp [h1,h2,h3,h4]
 ·rw [optL,h]
  simp only [h1,if_true,h3]
  rw [addAll_append,drop_addAll]
  rfl
theorem has_all (X m:List Pc) (h:has X 52=false):has (addAll X m) 52=has m 52:=by rw [has_addAll,h]; rfl
theorem look_none {l:List Pc} {c:UInt8} (h:has l c=false):look l c=none:=by
 have q:=look_has l c
 rw [h] at q
 simpa using q
theorem look_some {l:List Pc} {c:UInt8} (h:has l c=true):∃ d,look l c=some d:=by
 have q:=look_has l c
 rw [h] at q
 exact Option.isSome_iff_exists.1 q

def Fr (w:World) (b:Nat) (cs:Array Value) (u:World):Prop :=
 w.heap.size<b∧b<u.heap.size∧u.heap[w.heap.size]?=some (.cells #[.bool false,.int .u32 0,.int .u32 0,.int .u32 0,.int .u32 0,.int .u8 0,.int .u8 0,.int .u8 0,.int .u8 0,.int .u8 0,.int .u8 0,.slice none 0 0] 127 (0,0))∧u.heap[b]?=some (.cells cs 127 (0,0))∧Below w.heap.size w u
theorem Fr.later {w u u':World} {b n:Nat} {cs:Array Value} (h:Fr w b cs u) (hb:Below n u u') (hn:u.heap.size≤n):Fr w b cs u':=by
 obtain ⟨h1,h2,h3,h4,h5⟩:=h
 exact ⟨h1,by have:=hb.size; omega,by rw [hb.block _ (by omega)]; exact h3,by rw [hb.block _ (by omega)]; exact h4,h5.trans (hb.mono (by omega))⟩
theorem Fr.zero {w u:World} {b:Nat} {cs:Array Value} (h:Fr w b cs u):u.cell? ⟨w.heap.size,0,none⟩=some (.bool false)∧u.cell? ⟨w.heap.size,1,none⟩=some (.int .u32 0)∧u.cell? ⟨w.heap.size,2,none⟩=some (.int .u32 0)∧u.cell? ⟨w.heap.size,3,none⟩=some (.int .u32 0)∧u.cell? ⟨w.heap.size,4,none⟩=some (.int .u32 0)∧u.cell? ⟨w.heap.size,5,none⟩=some (.int .u8 0)∧u.cell? ⟨w.heap.size,6,none⟩=some (.int .u8 0)∧u.cell? ⟨w.heap.size,7,none⟩=some (.int .u8 0)∧u.cell? ⟨w.heap.size,8,none⟩=some (.int .u8 0)∧u.cell? ⟨w.heap.size,9,none⟩=some (.int .u8 0)∧u.cell? ⟨w.heap.size,10,none⟩=some (.int .u8 0)∧u.cell? ⟨w.heap.size,11,none⟩=some (.slice none 0 0)∧(∀ j,u.frozen? ⟨w.heap.size,j,none⟩=false):=by
 obtain ⟨h1,h2,h3,h4,h5⟩:=h
 exact ⟨EtR.row_cell h3 rfl,EtR.row_cell h3 rfl,EtR.row_cell h3 rfl,EtR.row_cell h3 rfl,EtR.row_cell h3 rfl,EtR.row_cell h3 rfl,EtR.row_cell h3 rfl,EtR.row_cell h3 rfl,EtR.row_cell h3 rfl,EtR.row_cell h3 rfl,EtR.row_cell h3 rfl,EtR.row_cell h3 rfl,EtR.row_free h3⟩
theorem Fr.vals {w u:World} {b:Nat} {y0 y1 y2 y3 y4 y5 y6 y7 y8 y9 y10:Value} (h:Fr w b #[y0,y1,y2,y3,y4,y5,y6,y7,y8,y9,y10,.slice none 0 0] u):u.cell? ⟨b,0,none⟩=some y0∧u.cell? ⟨b,1,none⟩=some y1∧u.cell? ⟨b,2,none⟩=some y2∧u.cell? ⟨b,3,none⟩=some y3∧u.cell? ⟨b,4,none⟩=some y4∧u.cell? ⟨b,5,none⟩=some y5∧u.cell? ⟨b,6,none⟩=some y6∧u.cell? ⟨b,7,none⟩=some y7∧u.cell? ⟨b,8,none⟩=some y8∧u.cell? ⟨b,9,none⟩=some y9∧u.cell? ⟨b,10,none⟩=some y10∧u.cell? ⟨b,11,none⟩=some (.slice none 0 0)∧(∀ j,u.frozen? ⟨b,j,none⟩=false):=by
 obtain ⟨h1,h2,h3,h4,h5⟩:=h
 exact ⟨EtR.row_cell h4 rfl,EtR.row_cell h4 rfl,EtR.row_cell h4 rfl,EtR.row_cell h4 rfl,EtR.row_cell h4 rfl,EtR.row_cell h4 rfl,EtR.row_cell h4 rfl,EtR.row_cell h4 rfl,EtR.row_cell h4 rfl,EtR.row_cell h4 rfl,EtR.row_cell h4 rfl,EtR.row_cell h4 rfl,EtR.row_free h4⟩
theorem Fr.bad {w u:World} {b:Nat} {cs:Array Value} (h:Fr w b cs u):∃ U,U=((((((((((((u.setCell ⟨w.heap.size,0,none⟩ (.bool false)).setCell ⟨w.heap.size,1,none⟩ (.int .u32 0)).setCell ⟨w.heap.size,2,none⟩ (.int .u32 0)).setCell ⟨w.heap.size,3,none⟩ (.int .u32 0)).setCell ⟨w.heap.size,4,none⟩ (.int .u32 0)).setCell ⟨w.heap.size,5,none⟩ (.int .u8 0)).setCell ⟨w.heap.size,6,none⟩ (.int .u8 0)).setCell ⟨w.heap.size,7,none⟩ (.int .u8 0)).setCell ⟨w.heap.size,8,none⟩ (.int .u8 0)).setCell ⟨w.heap.size,9,none⟩ (.int .u8 0)).setCell ⟨w.heap.size,10,none⟩ (.int .u8 0)).setCell ⟨w.heap.size,11,none⟩ (.slice none 0 0))∧U.cell? ⟨w.heap.size,0,none⟩=some (.bool false)∧U.cell? ⟨w.heap.size,1,none⟩=some (.int .u32 0)∧U.cell? ⟨w.heap.size,2,none⟩=some (.int .u32 0)∧U.cell? ⟨w.heap.size,3,none⟩=some (.int .u32 0)∧U.cell? ⟨w.heap.size,4,none⟩=some (.int .u32 0)∧U.cell? ⟨w.heap.size,5,none⟩=some (.int .u8 0)∧U.cell? ⟨w.heap.size,6,none⟩=some (.int .u8 0)∧U.cell? ⟨w.heap.size,7,none⟩=some (.int .u8 0)∧U.cell? ⟨w.heap.size,8,none⟩=some (.int .u8 0)∧U.cell? ⟨w.heap.size,9,none⟩=some (.int .u8 0)∧U.cell? ⟨w.heap.size,10,none⟩=some (.int .u8 0)∧U.cell? ⟨w.heap.size,11,none⟩=some (.slice none 0 0)∧Below w.heap.size w U:=by
 obtain ⟨h1,h2,h3,h4,h5⟩:=h
 have q:=DhR.row_set12 (t:=127) (g:=w.heap.size) (w:=u) (.bool false) (.int .u32 0) (.int .u32 0) (.int .u32 0) (.int .u32 0) (.int .u8 0) (.int .u8 0) (.int .u8 0) (.int .u8 0) (.int .u8 0) (.int .u8 0) (.slice none 0 0) (.bool false) (.int .u32 0) (.int .u32 0) (.int .u32 0) (.int .u32 0) (.int .u8 0) (.int .u8 0) (.int .u8 0) (.int .u8 0) (.int .u8 0) (.int .u8 0) (.slice none 0 0) h3
 refine ⟨_,rfl,EtR.row_cell q rfl,EtR.row_cell q rfl,EtR.row_cell q rfl,EtR.row_cell q rfl,EtR.row_cell q rfl,EtR.row_cell q rfl,EtR.row_cell q rfl,EtR.row_cell q rfl,EtR.row_cell q rfl,EtR.row_cell q rfl,EtR.row_cell q rfl,EtR.row_cell q rfl,?_⟩
 iterate 12 refine Below.setCell ?_ (by simp) _
 exact h5
theorem Fr.good {w u:World} {b:Nat} {y0 y1 y2 y3 y4 y5 y6 y7 y8 y9 y10:Value} (v:Value) (h:Fr w b #[y0,y1,y2,y3,y4,y5,y6,y7,y8,y9,y10,.slice none 0 0] u):∃ U,U=(((((((((((((u.setCell ⟨b,11,none⟩ v).setCell ⟨w.heap.size,0,none⟩ (y0)).setCell ⟨w.heap.size,1,none⟩ (y1)).setCell ⟨w.heap.size,2,none⟩ (y2)).setCell ⟨w.heap.size,3,none⟩ (y3)).setCell ⟨w.heap.size,4,none⟩ (y4)).setCell ⟨w.heap.size,5,none⟩ (y5)).setCell ⟨w.heap.size,6,none⟩ (y6)).setCell ⟨w.heap.size,7,none⟩ (y7)).setCell ⟨w.heap.size,8,none⟩ (y8)).setCell ⟨w.heap.size,9,none⟩ (y9)).setCell ⟨w.heap.size,10,none⟩ (y10)).setCell ⟨w.heap.size,11,none⟩ (v))∧U.cell? ⟨w.heap.size,0,none⟩=some (y0)∧U.cell? ⟨w.heap.size,1,none⟩=some (y1)∧U.cell? ⟨w.heap.size,2,none⟩=some (y2)∧U.cell? ⟨w.heap.size,3,none⟩=some (y3)∧U.cell? ⟨w.heap.size,4,none⟩=some (y4)∧U.cell? ⟨w.heap.size,5,none⟩=some (y5)∧U.cell? ⟨w.heap.size,6,none⟩=some (y6)∧U.cell? ⟨w.heap.size,7,none⟩=some (y7)∧U.cell? ⟨w.heap.size,8,none⟩=some (y8)∧U.cell? ⟨w.heap.size,9,none⟩=some (y9)∧U.cell? ⟨w.heap.size,10,none⟩=some (y10)∧U.cell? ⟨w.heap.size,11,none⟩=some (v)∧Below w.heap.size w U∧∀ B ls,b<B→Has B u v ls→Has B U v ls:=by
 obtain ⟨h1,h2,h3,h4,h5⟩:=h
 have h3':(u.setCell ⟨b,11,none⟩ v).heap[w.heap.size]?=some (.cells #[.bool false,.int .u32 0,.int .u32 0,.int .u32 0,.int .u32 0,.int .u8 0,.int .u8 0,.int .u8 0,.int .u8 0,.int .u8 0,.int .u8 0,.slice none 0 0] 127 (0,0)):=by rw [Below.heap_setCell _ _ _ _ (by show w.heap.size≠b; omega)]; exact h3
 have q:=DhR.row_set12 (t:=127) (g:=w.heap.size) (w:=u.setCell ⟨b,11,none⟩ v) (.bool false) (.int .u32 0) (.int .u32 0) (.int .u32 0) (.int .u32 0) (.int .u8 0) (.int .u8 0) (.int .u8 0) (.int .u8 0) (.int .u8 0) (.int .u8 0) (.slice none 0 0) y0 y1 y2 y3 y4 y5 y6 y7 y8 y9 y10 v h3'
 refine ⟨_,rfl,EtR.row_cell q rfl,EtR.row_cell q rfl,EtR.row_cell q rfl,EtR.row_cell q rfl,EtR.row_cell q rfl,EtR.row_cell q rfl,EtR.row_cell q rfl,EtR.row_cell q rfl,EtR.row_cell q rfl,EtR.row_cell q rfl,EtR.row_cell q rfl,EtR.row_cell q rfl,?_,?_⟩
 ·iterate 12 refine Below.setCell ?_ (by simp) _
  exact h5.setCell (by show w.heap.size≤b; omega) _
 ·intro B ls hB hH
  iterate 12 refine Has.setCell ?_ (by show w.heap.size<B; omega) _
  exact hH.setCell hB _
end Go.Proofs.YtbhbbeebncmaiaaGreatDoor.Dh
