import Derived.WalkKit
import Derived.ProofKit
import Derived.Test.YtbhbbeebncmaiaaGreatDoorMgZ00
import Derived.Defers
import Derived.Recover
import Derived.Lib.BufferWrite
import Derived.Lib.UnsafeStr
import Derived.Laws.MakeOwn
import Derived.Lib.SlicesCompact
import Derived.Lib.Bytealg
import Derived.Deep.RegionHeld3
namespace Go.Proofs.YtbhbbeebncmaiaaGreatDoor.Dh
set_option linter.unusedVariables false
abbrev Pc:=UInt8 × List UInt8
abbrev Opts:=List Pc
def heavy (os:Opts):Nat:=os.length+(os.map fun o=>o.2.length).sum
theorem heavy_take (os:Opts) (k:Nat) (h:k<os.length):heavy (os.take (k+1))=heavy (os.take k)+1+os[k].2.length:=by
 simp only [heavy,List.take_succ_eq_append_getElem h,List.map_append,List.sum_append,List.length_append,List.length_cons,List.length_nil,List.map_cons,List.map_nil,List.sum_cons,List.sum_nil]
 omega
theorem heavy_le (os:Opts) (k:Nat):heavy (os.take k)≤heavy os:=by
 have e:heavy os=heavy (os.take k)+heavy (os.drop k):=by
  have q:heavy (os.take k++os.drop k)=heavy (os.take k)+heavy (os.drop k):=by
   simp only [heavy,List.map_append,List.sum_append,List.length_append]; omega
  rwa [List.take_append_drop] at q
 omega
theorem heavy_one (os:Opts) (k:Nat) (h:k<os.length):os[k].2.length≤heavy os:=by
 have:=heavy_take os k h
 have:=heavy_le os (k+1)
 omega
end Go.Proofs.YtbhbbeebncmaiaaGreatDoor.Dh
namespace Go.Proofs.YtbhbbeebncmaiaaGreatDoor.Rd
open Go.ChangeShapes Go.WideShapes Go.ChangeAt Go.RowKit Bs
set_option linter.unusedVariables false
def errP (k:Int):List PanicEntry:=[{ v:=.iface 58 (.int .i64 k),recovered:=false }]
def Rdr (w:World) (B:Nat) (l:List UInt8):Prop:=w.heap[B]?=some (.cells #[.string ⟨l.toArray⟩] 217 (0,0))
theorem str_size (l:List UInt8):(⟨l.toArray⟩:ByteArray).size=l.length:=by show l.toArray.size=_; simp
theorem str_eta (s:ByteArray):(⟨s.data.toList.toArray⟩:ByteArray)=s:=by cases s; rfl
theorem str_take (l:List UInt8) (n:Nat):(⟨l.toArray⟩:ByteArray).extract 0 n=⟨(l.take n).toArray⟩:=by
 apply ByteArray.ext
 rw [ByteArray.data_extract]
 apply Array.ext'
 simp
theorem str_drop (l:List UInt8) (n:Nat):(⟨l.toArray⟩:ByteArray).extract n (⟨l.toArray⟩:ByteArray).size=⟨(l.drop n).toArray⟩:=by
 apply ByteArray.ext
 rw [ByteArray.data_extract,str_size]
 apply Array.ext'
 simp
 rw [List.take_of_length_le (by simp)]
theorem Rdr.set {w:World} {B:Nat} {l:List UInt8} (h:Rdr w B l) (m:List UInt8):Rdr (w.setCell ⟨B,0,none⟩ (.string ⟨m.toArray⟩)) B m:=one_setCell h
theorem Rdr.lt {w:World} {B:Nat} {l:List UInt8} (h:Rdr w B l):B<w.heap.size:=lt_of_block h
theorem Rdr.alloc {w:World} {B:Nat} {l:List UInt8} (h:Rdr w B l) (o:Obj):Rdr (w.alloc o) B l:=by
 unfold Rdr; rw [Below.heap_alloc _ _ _ h.lt]; exact h
theorem Rdr.drew {w:World} {B:Nat} {l:List UInt8} (h:Rdr w B l):Rdr w.drew B l:=h

theorem grown_set {w:World} {B:Nat} (v:Value):w.grownBy (w.setCell ⟨B,0,none⟩ v) (some B) :=
 ⟨rfl,rfl,rfl,by simp [World.setCell],fun k _ hk=>Below.heap_setCell _ _ _ _ (fun e=>hk (by rw [e]))⟩
theorem grown_refl (w:World) (r:Option Nat):w.grownBy w r:=⟨rfl,rfl,rfl,Nat.le_refl _,fun _ _ _=>rfl⟩
theorem grown_trans {a b c:World} {r:Option Nat} (h:a.grownBy b r) (k:b.grownBy c r):a.grownBy c r :=
 ⟨k.os.trans h.os,k.tape.trans h.tape,k.output.trans h.output,Nat.le_trans h.size k.size,fun i hi hr=>(k.block i (Nat.lt_of_lt_of_le hi h.size) hr).trans (h.block i hi hr)⟩
theorem grown_alloc {a w:World} {r:Option Nat} (h:a.grownBy w r) (o:Obj):a.grownBy (w.alloc o) r:=grown_trans h (World.grownBy_alloc w o r)
theorem grown_drew {a w:World} {r:Option Nat} (h:a.grownBy w r):a.grownBy w.drew r:=⟨h.os,h.tape,h.output,h.size,h.block⟩
theorem grown_drewN {a w:World} {r:Option Nat} (h:a.grownBy w r) (n:Nat):a.grownBy (w.drewN n) r:=⟨h.os,h.tape,h.output,h.size,h.block⟩
theorem grown_below {a w w':World} {r:Option Nat} (h:a.grownBy w r) (hb:Below w.heap.size w w'):a.grownBy w' r :=
 ⟨hb.os.trans h.os,hb.tape.trans h.tape,hb.output.trans h.output,Nat.le_trans h.size hb.size,fun i hi hr=>(hb.block i (Nat.lt_of_lt_of_le hi h.size)).trans (h.block i hi hr)⟩
theorem must_ok (k:Int) (w:World) :
  Calls Tryz.prog 204 #[.bool true,.int .i64 k] w fun e w'=>e=.returned (.tuple #[])∧w'=w:=by
 go_enter Tryz.func204,Tryz.ntmps204
 go_wp2
 go_end0
 exact ⟨rfl,rfl⟩
theorem must_no (k:Int) (w:World) :
  Calls Tryz.prog 204 #[.bool false,.int .i64 k] w fun e w'=>e=.panicked (errP k)∧w'=w:=by
 go_enter Tryz.func204,Tryz.ntmps204
 go_wp2
 exact ⟨rfl,rfl,rfl⟩
theorem must_if (p:Bool) (h:p=true) (k:Int) (w:World) :
  Calls Tryz.prog 204 #[.bool p,.int .i64 k] w fun e w'=>e=.returned (.tuple #[])∧w'=w:=by subst h; exact must_ok k w
theorem must_else (p:Bool) (h:p=false) (k:Int) (w:World) :
  Calls Tryz.prog 204 #[.bool p,.int .i64 k] w fun e w'=>e=.panicked (errP k)∧w'=w:=by subst h; exact must_no k w
theorem need_ok (B:Nat) (l:List UInt8) (n:Int) (w:World) (h:Rdr w B l) (hn:n≤l.length) :
  Calls Tryz.prog 241 #[.pointer (some ⟨B,0,none⟩),.int .i64 n] w fun e w'=>e=.returned (.tuple #[])∧w'=w:=by
 have hc:=cell_of_one h
 have hz:=str_size l
 clear h
 go_enter Tryz.func241,Tryz.ntmps241
 go_wp2_with fail
 refine (must_if _ (by simp <;> omega) _ _).mono ?_
 rintro e w1 ⟨rfl,rfl⟩
 go_wp2
 go_end0
 exact ⟨rfl,rfl⟩
theorem need_no (B:Nat) (l:List UInt8) (n:Int) (w:World) (h:Rdr w B l) (hn:(l.length:Int)<n) :
  Calls Tryz.prog 241 #[.pointer (some ⟨B,0,none⟩),.int .i64 n] w fun e w'=>e=.panicked (errP 1)∧w'=w:=by
 have hc:=cell_of_one h
 have hz:=str_size l
 clear h
 go_enter Tryz.func241,Tryz.ntmps241
 go_wp2_with fail
 refine (must_else _ (by simp <;> omega) _ _).mono ?_
 rintro e w1 ⟨rfl,rfl⟩
 exact ⟨rfl,rfl,rfl⟩
theorem take_no (B:Nat) (l:List UInt8) (n:Int) (w:World) (h:Rdr w B l) (hn:(l.length:Int)<n) :
  Calls Tryz.prog 203 #[.pointer (some ⟨B,0,none⟩),.int .i64 n] w fun e w'=>e=.panicked (errP 1)∧w'=w:=by
 have HN:=hide (need_no B l n w h hn)
 clear h
 go_enter Tryz.func203,Tryz.ntmps203
 go_wp2_with fail
 refine (unhide HN).mono ?_
 rintro e w1 ⟨rfl,rfl⟩
 exact ⟨rfl,rfl,rfl⟩
theorem take_ok (B:Nat) (l:List UInt8) (n:Nat) (w:World) (h:Rdr w B l) (hn:n≤l.length) (hs:l.length≤maxLen) :
  Calls Tryz.prog 203 #[.pointer (some ⟨B,0,none⟩),.int .i64 n] w fun e w'=>e=.returned (.string ⟨(l.take n).toArray⟩)∧w'=w.setCell ⟨B,0,none⟩ (.string ⟨(l.drop n).toArray⟩):=by
 unfold maxLen at hs
 have HN:=hide (need_ok B l n w h (by omega))
 have hc:=cell_of_one h
 have hf:=free_of_one h
 obtain ⟨s,hS⟩:∃ s:ByteArray,s=⟨l.toArray⟩:=⟨_,rfl⟩
 have hz:s.size=l.length:=by rw [hS]; exact str_size l
 rw [← str_take,← str_drop]
 rw [← hS] at hc ⊢
 have hb:(n:Int)≤(s.size:Int):=by omega
 have hs1:s.size≤2 ^ 63 - 1:=by omega
 clear h hS hz hn hs
 go_enter Tryz.func203,Tryz.ntmps203
 go_wp2_with fail
 refine (unhide HN).mono ?_
 rintro e w1 ⟨rfl,rfl⟩
 go_wp2
 go_ret
 exact ⟨rfl,rfl⟩

theorem word_no (B:Nat) (l:List UInt8) (w:World) (h:Rdr w B l) (hn:l.length<2) :
  Calls Tryz.prog 162 #[.pointer (some ⟨B,0,none⟩)] w fun e w'=>e=.panicked (errP 1)∧w'=w:=by
 have HN:=hide (take_no B l 2 w h (by omega))
 clear h
 go_enter Tryz.func162,Tryz.ntmps162
 go_wp2_with fail
 refine (unhide HN).mono ?_
 rintro e w1 ⟨rfl,rfl⟩
 exact ⟨rfl,rfl,rfl⟩

theorem u16_word (a b:Nat) (ha:a<256) (hb:b<256) :
  bits .or .u16 ((a:Int)*256) (b:Int)=256*(a:Int)+(b:Int):=by
 have e1:(a:Int)*256=((256*a:Nat):Int):=by omega
 rw [e1,u16_or_nat _ _ (by omega) (by omega),nat_join 8 _ _ (by omega) (by omega)]
 omega

theorem u32_words (x y:Int) (h0:0≤x) (h1:x≤65535) (h2:0≤y) (h3:y≤65535):bits .or .u32 (x*65536) y=x*65536+y:=by
 have e1:x*65536=((65536*x.toNat:Nat):Int):=by omega
 have e2:y=(y.toNat:Int):=by omega
 rw [e1,e2,u32_or_nat _ _ (by omega) (by omega),nat_join 16 _ _ (by omega) (by omega)]
 omega

set_option maxHeartbeats 400000 in
theorem word_ok (B:Nat) (a b:UInt8) (l:List UInt8) (w:World) (h:Rdr w B (a::b::l)) (hs:(a::b::l).length≤maxLen) :
  Calls Tryz.prog 162 #[.pointer (some ⟨B,0,none⟩)] w fun e w'=>e=.returned (.int .u16 (256*(a.toNat:Int)+(b.toNat:Int)))∧Rdr w' B l∧w.grownBy w' (some B):=by
 have HN:=hide (take_ok B (a::b::l) 2 w h (by simp) hs)
 have HR:=hide (h.set l)
 have ha:a.toNat<256:=a.toNat_lt
 have hb:b.toNat<256:=b.toNat_lt
 clear h hs
 go_enter Tryz.func162,Tryz.ntmps162
 go_wp2_with fail
 refine (unhide HN).mono ?_
 rintro e w1 ⟨rfl,rfl⟩
 have i0:∀ u,(Instr.index 9 (.string ⟨#[a,b]⟩) (.int .i64 0)).run Tryz.prog u=.ok (.int .u8 a.toNat) u:=fun _=>by kernel_rfl
 have i1:∀ u,(Instr.index 9 (.string ⟨#[a,b]⟩) (.int .i64 1)).run Tryz.prog u=.ok (.int .u8 b.toNat) u:=fun _=>by kernel_rfl
 have q1:IntKind.u16.wrap (a.toNat:Int)=(a.toNat:Int):=by rw [IntKind.wrap_u16]; omega
 have q2:IntKind.u16.wrap ((a.toNat:Int)*256)=(a.toNat:Int)*256:=by rw [IntKind.wrap_u16]; omega
 have q3:IntKind.u16.wrap (b.toNat:Int)=(b.toNat:Int):=by rw [IntKind.wrap_u16]; omega
 go_wp2
 go_quiet (fail)
 go_wp2
 go_ret
 exact ⟨ret_int (u16_word _ _ ha hb),unhide HR,grown_drewN (grown_set _) nq⟩

set_option maxHeartbeats 400000 in
theorem long_ok (B:Nat) (a b c d:UInt8) (l:List UInt8) (w:World) (h:Rdr w B (a::b::c::d::l)) (hs:(a::b::c::d::l).length≤maxLen) :
  Calls Tryz.prog 274 #[.pointer (some ⟨B,0,none⟩)] w fun e w'=>e=.returned (.int .u32 (16777216*(a.toNat:Int)+65536*(b.toNat:Int)+256*(c.toNat:Int)+(d.toNat:Int)))∧Rdr w' B l∧w.grownBy w' (some B):=by
 have HN:=hide (word_ok B a b (c::d::l) w h hs)
 have HM:=hide (fun u hu=>word_ok B c d l u hu (by simp only [List.length_cons] at hs ⊢; omega))
 have ha:a.toNat<256:=a.toNat_lt
 have hb:b.toNat<256:=b.toNat_lt
 have hc:c.toNat<256:=c.toNat_lt
 have hd:d.toNat<256:=d.toNat_lt
 obtain ⟨x,hx⟩:∃ x,x=256*(a.toNat:Int)+(b.toNat:Int):=⟨_,rfl⟩
 obtain ⟨y,hy⟩:∃ y,y=256*(c.toNat:Int)+(d.toNat:Int):=⟨_,rfl⟩
 have hx0:0≤x:=by omega
 have hx1:x≤65535:=by omega
 have hy0:0≤y:=by omega
 have hy1:y≤65535:=by omega
 have e:16777216*(a.toNat:Int)+65536*(b.toNat:Int)+256*(c.toNat:Int)+(d.toNat:Int)=x*65536+y:=by omega
 rw [e]
 rw [← hx] at HN
 rw [← hy] at HM
 clear h hs hx hy e ha hb hc hd
 go_enter Tryz.func274,Tryz.ntmps274
 go_wp2_with fail
 refine (unhide HN).mono ?_
 rintro e w1 ⟨rfl,h1,g1⟩
 have H1:=hide h1
 have G1:=hide g1
 clear h1 g1
 go_wp2_with fail
 refine (unhide HM _ (unhide H1)).mono ?_
 rintro e w2 ⟨rfl,h2,g2⟩
 have H2:=hide h2
 have G2:=hide g2
 clear h2 g2
 go_wp2
 go_ret
 refine ⟨ret_int ?_,unhide H2,grown_trans (unhide G1) (unhide G2)⟩
 exact u32_words x y hx0 hx1 hy0 hy1

set_option maxHeartbeats 400000 in
theorem address_ok (B:Nat) (a b c d:UInt8) (l:List UInt8) (w:World) (h:Rdr w B (a::b::c::d::l)) (hs:(a::b::c::d::l).length≤maxLen) :
  Calls Tryz.prog 245 #[.pointer (some ⟨B,0,none⟩)] w fun e w'=>e=.returned (.int .u32 (16777216*(a.toNat:Int)+65536*(b.toNat:Int)+256*(c.toNat:Int)+(d.toNat:Int)))∧Rdr w' B l∧w.grownBy w' (some B):=by
 have HN:=hide (long_ok B a b c d l w h hs)
 have ha:a.toNat<256:=a.toNat_lt
 have hb:b.toNat<256:=b.toNat_lt
 have hc:c.toNat<256:=c.toNat_lt
 have hd:d.toNat<256:=d.toNat_lt
 obtain ⟨x,hx⟩:∃ x,x=16777216*(a.toNat:Int)+65536*(b.toNat:Int)+256*(c.toNat:Int)+(d.toNat:Int):=⟨_,rfl⟩
 have hx0:0≤x:=by omega
 have hx1:x≤4294967295:=by omega
 rw [← hx] at HN ⊢
 clear h hs hx ha hb hc hd
 go_enter Tryz.func245,Tryz.ntmps245
 go_wp2_with fail
 refine (unhide HN).mono ?_
 rintro e w1 ⟨rfl,h1,g1⟩
 have H1:=hide h1
 have G1:=hide g1
 clear h1 g1
 go_wp2
 go_ret
 exact ⟨rfl,unhide H1,unhide G1⟩
end Go.Proofs.YtbhbbeebncmaiaaGreatDoor.Rd
namespace Go.Proofs.YtbhbbeebncmaiaaGreatDoor.Rd
open Go.ChangeShapes Go.WideShapes Go.ChangeAt Go.RowKit Bs
set_option linter.unusedVariables false
theorem infoSize1:(Tryz.prog.info? 5).map (·.size)=some 1:=by kernel_rfl
theorem cellsOne:Tryz.prog.cellsOf 5=1:=by kernel_rfl

set_option maxHeartbeats 4000000 in
set_option maxRecDepth 10000 in
theorem clone_lite (s:ByteArray) (w:World) (hs:s.size≤1099511627776) :
  Calls Tryz.prog 78 #[.string s] w fun e w'=>e=.returned (.string s)∧Below w.heap.size w w':=by
 by_cases h0:s.size=0
 ·have e:s=⟨#[]⟩:=ByteArray.ext (Array.eq_empty_of_size_eq_zero h0)
  subst e
  go_enter Tryz.func78,Tryz.ntmps78
  go_wp2
  go_ret
  exact ⟨rfl,Below.refl _ _⟩
 ·obtain ⟨i0,hi,hz0,hz1,hz2⟩:=info_parts info8
  have hlen:=len_str s
  -- the new row,its bytes still 0
  obtain ⟨M,hM⟩:∃ M,M=madeCells #[Value.int .u8 0] s.size:=⟨_,rfl⟩
  have hMs:M.size=s.size:=by rw [hM,← Array.length_toList,toList_madeCells_one]; simp
  have hmk:∀ u:World,(Instr.makeSlice 55 (.int .i64 (s.size:Int)) (.int .i64 (s.size:Int))).run Tryz.prog u=.ok (.slice (some ⟨u.heap.size,0,none⟩) s.size s.size) (u.alloc (.cells M 5)):=fun u=>by
   have h:=run_make (P:=Tryz.prog) u 55 5 i0 (.int .u8 0) Tryz.underlying55 hi hz0 .i64 .i64 (s.size:Int) (s.size:Int) (by omega) (Int.le_refl _) (by rw [hz2]; omega) (by omega)
   rw [hM]
   simpa [hz1,Value.cells] using h
  clear hM
  -- the bytes are laid into it
  have hcp:=Lib.run_copy_row_string (P:=Tryz.prog) (w.alloc (.cells M 5)) 55 9 3 5 w.heap.size 0 s.size s.size s M 5 Tryz.underlying55 infoSize1 (heap_alloc_new w _) (Nat.le_refl _) (by omega)
  obtain ⟨Y,hY⟩:∃ Y,Y=(M.toList.take 0++Lib.byteCells s.data.toList++M.toList.drop (0+s.size)).toArray:=⟨_,rfl⟩
  rw [← hY] at hcp
  have hYl:Y.toList=cells8 s.data.toList:=by
   rw [hY,List.toList_toArray,List.take_zero,List.nil_append,List.drop_of_length_le (by rw [Array.length_toList]; omega),List.append_nil]; rfl
  have hYs:Y.size=s.size:=by rw [← Array.length_toList,hYl,cells8_length,hlen]
  have hrow:((w.alloc (.cells M 5)).setRow w.heap.size Y).heap[w.heap.size]?=some (.cells Y 5 (0,0)):=setRow_heap _ _ M _ 5 (0,0) (heap_alloc_new w _)
  have hne:s.data.toList≠[]:=fun e=>h0 (by rw [← hlen,e]; rfl)
  have hus:=Lib.run_unsafeString_row (P:=Tryz.prog) ((w.alloc (.cells M 5)).setRow w.heap.size Y) 178 3 9 5 Tryz.underlying178 cellsOne w.heap.size Y.size (by unfold World.shape?; rw [hrow]) s.data.toList hne (by omega) (by omega)
   (fun j x hx=>by
    rw [add_lit',cell_of_row _ w.heap.size j Y 5 (0,0) hrow,← Array.getElem?_toList,hYl]
    have hj:j<s.data.toList.length:=(List.getElem?_eq_some_iff.1 hx).1
    rw [cells8_get _ j hj]
    rw [List.getElem?_eq_getElem hj] at hx
    simp at hx ⊢
    rw [hx])
  rw [hlen,str_eta] at hus
  clear hY hlen
  go_enter Tryz.func78,Tryz.ntmps78
  go_wp2
  go_ret
  have hb1:Below w.heap.size w (w.alloc (.cells M 5)):=(Below.refl _ w).alloc (Nat.le_refl _) _
  have hb2:Below w.heap.size (w.alloc (.cells M 5)) ((w.alloc (.cells M 5)).setRow w.heap.size Y):=⟨rfl,rfl,rfl,by simp,fun k hk=>setRow_other _ _ _ _ (by omega)⟩
  exact ⟨rfl,Lib.below_freeze (hb1.trans hb2) (p:=⟨w.heap.size,0,none⟩) (Nat.le_refl _) _⟩

set_option maxHeartbeats 1000000 in
theorem clone_any (s:ByteArray) (w:World) (hs:s.size≤1099511627776) :
  Calls Tryz.prog 49 #[.string s] w fun e w'=>e=.returned (.string s)∧Below w.heap.size w w':=by
 have HC:=hide (clone_lite s w hs)
 go_enter Tryz.func49,Tryz.ntmps49
 go_wp2_with fail
 refine (unhide HC).mono ?_
 rintro e w1 ⟨rfl,hb⟩
 go_wp2
 go_ret
 exact ⟨rfl,hb⟩

set_option maxHeartbeats 1000000 in
theorem text_ok (B:Nat) (l:List UInt8) (n:Nat) (w:World) (h:Rdr w B l) (hn:n≤l.length) (hs:l.length≤1099511627776) :
  Calls Tryz.prog 205 #[.pointer (some ⟨B,0,none⟩),.int .i64 n] w fun e w'=>e=.returned (.string ⟨(l.take n).toArray⟩)∧Rdr w' B (l.drop n)∧w.grownBy w' (some B):=by
 have HN:=hide (take_ok B l n w h hn (by unfold maxLen; omega))
 have HC:=hide (fun u=>clone_any ⟨(l.take n).toArray⟩ u (by rw [str_size,List.length_take]; omega))
 have HR:=hide (h.set (l.drop n))
 clear h
 go_enter Tryz.func205,Tryz.ntmps205
 go_wp2_with fail
 refine (unhide HN).mono ?_
 rintro e w1 ⟨rfl,rfl⟩
 go_wp2_with fail
 refine (unhide HC _).mono ?_
 rintro e w2 ⟨rfl,hb⟩
 have HB:=hide hb
 clear hb
 go_wp2
 go_ret
 refine ⟨rfl,?_,grown_below (grown_set _) (unhide HB)⟩
 exact ((unhide HB).block B (unhide HR).lt).trans (unhide HR)

set_option maxHeartbeats 1000000 in
theorem remaining_ok (B:Nat) (l:List UInt8) (w:World) (h:Rdr w B l) (hs:l.length≤1099511627776) :
  Calls Tryz.prog 165 #[.pointer (some ⟨B,0,none⟩)] w fun e w'=>e=.returned (.string ⟨l.toArray⟩)∧Rdr w' B []∧w.grownBy w' (some B):=by
 have hc:=cell_of_one h
 have hz:=str_size l
 have ht:=text_ok B l l.length w h (Nat.le_refl _) hs
 rw [List.take_length,List.drop_length] at ht
 have HT:=hide ht
 clear h ht
 go_enter Tryz.func165,Tryz.ntmps165
 go_wp2_with fail
 refine (unhide HT).mono ?_
 rintro e w1 ⟨rfl,h1,g1⟩
 have H1:=hide h1
 have G1:=hide g1
 clear h1 g1 hc
 go_wp2
 go_ret
 exact ⟨rfl,unhide H1,unhide G1⟩
end Go.Proofs.YtbhbbeebncmaiaaGreatDoor.Rd
namespace Go.Proofs.YtbhbbeebncmaiaaGreatDoor.Tf
set_option linter.unusedVariables false
def okC (c:UInt8):Bool:=decide (33≤c.toNat∧c.toNat≤126)
def nameB (l:List UInt8):Bool:=!l.isEmpty&&l.all okC
end Go.Proofs.YtbhbbeebncmaiaaGreatDoor.Tf
namespace Go.Proofs.YtbhbbeebncmaiaaGreatDoor.Rd
open Go.ChangeShapes Go.WideShapes Go.ChangeAt Go.RowKit Bs
set_option linter.unusedVariables false
theorem setRow_new (w:World) (c:Array Value) (t:TypeId) (cs:Array Value):(w.alloc (.cells c t)).setRow w.heap.size cs=w.alloc (.cells cs t):=by
 have hh:((w.heap.push (.cells c t)).modify w.heap.size fun | .cells _ elem frozen=>.cells cs elem frozen | o=>o)=w.heap.push (.cells cs t):=by
  apply Array.ext_getElem?
  intro i
  rw [Array.getElem?_modify,Array.getElem?_push,Array.getElem?_push]
  by_cases h:w.heap.size=i
  ·subst h; simp
  ·have h':i≠w.heap.size:=fun e=>h e.symm
   simp [h,h']
 show ({ heap:=(w.heap.push (.cells c t)).modify w.heap.size fun | .cells _ elem frozen=>.cells cs elem frozen | o=>o,tape:=w.tape,drawn:=w.drawn,os:=w.os,output:=w.output }:World)={ heap:=w.heap.push (.cells cs t),tape:=w.tape,drawn:=w.drawn,os:=w.os,output:=w.output }
 rw [hh]

theorem info1:(Tryz.prog.info? 5).map (·.size)=some 1:=by kernel_rfl
set_option maxHeartbeats 1000000 in
theorem card_ok (B:Nat) (a b c d e f:UInt8) (l:List UInt8) (w:World) (h:Rdr w B (a::b::c::d::e::f::l)) (hs:(a::b::c::d::e::f::l).length≤maxLen) :
  Calls Tryz.prog 160 #[.pointer (some ⟨B,0,none⟩)] w fun ee w'=>ee=.returned (.agg #[.int .u8 a.toNat,.int .u8 b.toNat,.int .u8 c.toNat,.int .u8 d.toNat,.int .u8 e.toNat,.int .u8 f.toNat])∧Rdr w' B l∧w.grownBy w' (some B):=by
 have HN:=hide (fun u hu=>take_ok B (a::b::c::d::e::f::l) 6 u hu (by simp) hs)
 have HH:=hide h
 have hB:=h.lt
 obtain ⟨u,hu⟩:∃ u,u=(w.setCell ⟨B,0,none⟩ (.string ⟨l.toArray⟩)).alloc (.cells #[.int .u8 0,.int .u8 0,.int .u8 0,.int .u8 0,.int .u8 0,.int .u8 0] 26):=⟨_,rfl⟩
 have huz:u.heap.size=w.heap.size+1:=by rw [hu]; simp [World.setCell]
 have hcp:=Lib.run_copy_row_string (P:=Tryz.prog) (u.alloc (.cells #[.int .u8 0,.int .u8 0,.int .u8 0,.int .u8 0,.int .u8 0,.int .u8 0] 26)).drew 55 9 3 5 u.heap.size 0 6 6 ⟨#[a,b,c,d,e,f]⟩ #[.int .u8 0,.int .u8 0,.int .u8 0,.int .u8 0,.int .u8 0,.int .u8 0] 26 Tryz.underlying55 info1 (heap_alloc_new u _) (Nat.le_refl 6) (Nat.le_refl 6)
 have e1:(u.alloc (.cells #[.int .u8 0,.int .u8 0,.int .u8 0,.int .u8 0,.int .u8 0,.int .u8 0] 26)).drew.setRow u.heap.size ((#[.int .u8 0,.int .u8 0,.int .u8 0,.int .u8 0,.int .u8 0,.int .u8 0]:Array Value).toList.take 0++Lib.byteCells (⟨#[a,b,c,d,e,f]⟩:ByteArray).data.toList++(#[.int .u8 0,.int .u8 0,.int .u8 0,.int .u8 0,.int .u8 0,.int .u8 0]:Array Value).toList.drop (0+(⟨#[a,b,c,d,e,f]⟩:ByteArray).size)).toArray=(u.alloc (.cells #[.int .u8 a.toNat,.int .u8 b.toNat,.int .u8 c.toNat,.int .u8 d.toNat,.int .u8 e.toNat,.int .u8 f.toNat] 26)).drew:=by
  show ((u.alloc (.cells #[.int .u8 0,.int .u8 0,.int .u8 0,.int .u8 0,.int .u8 0,.int .u8 0] 26)).setRow u.heap.size _).drew=_
  rw [setRow_new]
  rfl
 rw [e1,huz,hu] at hcp
 clear h hs e1 huz hu u
 go_enter Tryz.func160,Tryz.ntmps160
 go_wp2_with fail
 go_region_held3 (fun _=>True) (trivial) (first | (go_at_call 203; refine (unhide HN _ (((unhide HH).alloc _).alloc _).drew).mono ?_; rintro ee u ⟨rfl,hu⟩))
 go_wp2
 refine bodyPost_ret (v:=.agg #[.int .u8 a.toNat,.int .u8 b.toNat,.int .u8 c.toNat,.int .u8 d.toNat,.int .u8 e.toNat,.int .u8 f.toNat]) (by simp [results,Tryz.results160,go_sem]) rfl ⟨rfl,?_,?_⟩
 ·exact ((((unhide HH).set l).alloc _).alloc _).drew
 ·exact grown_drew (grown_alloc (grown_alloc (grown_set _) _) _)

theorem card_no (B:Nat) (l:List UInt8) (w:World) (h:Rdr w B l) (hn:l.length<6) :
  Calls Tryz.prog 160 #[.pointer (some ⟨B,0,none⟩)] w fun ee w'=>ee=.panicked (errP 1)∧w.grownBy w' (some B):=by
 have HN:=hide (fun u hu=>take_no B l 6 u hu (by omega))
 have HH:=hide h
 clear h
 go_enter Tryz.func160,Tryz.ntmps160
 go_wp2_with fail
 refine wp_region_any (by kernel_rfl) ?_
 change wpAny _ _ _ _ _ _ _ (World.drew _)
 refine wpAny_take (i:=0) (v:=.slice (some ⟨w.heap.size+1,0,none⟩) 6 6) rfl (by kernel_rfl) (by kernel_rfl) (by kernel_rfl) (fun _ _ _ h=>h) (Or.inl ⟨by rfl,?_⟩) ?_
 ·intro u; go_simp
 refine wpAny_take (i:=1) (v:=.pointer (some ⟨B,0,none⟩)) rfl (by kernel_rfl) (by kernel_rfl) (by kernel_rfl) (fun _ _ _ h=>h) (Or.inl ⟨by rfl,?_⟩) ?_
 ·intro u; go_simp
 refine wpAny_ready (rs:=[2]) (by kernel_rfl) (by simp) ?_
 refine AllReady.cons rfl (fun K hK=>?_) AllReady.nil
 go_simp
 refine (unhide HN _ (((unhide HH).alloc _).alloc _).drew).mono ?_
 rintro ee u ⟨rfl,rfl⟩
 exact ⟨rfl,rfl,grown_drew (grown_alloc (grown_alloc (grown_refl _ _) _) _)⟩
end Go.Proofs.YtbhbbeebncmaiaaGreatDoor.Rd
