import Derived.Test.YtbhbbeebncmaiaaGreatDoorMgZ46
import Derived.Test.YtbhbbeebncmaiaaGreatDoorMgZ10
import Derived.Handy
namespace Go.Proofs.YtbhbbeebncmaiaaGreatDoor.Opt
open Go.ChangeShapes Go.WideShapes Go.ChangeAt Go.RowKit Bs Rd Dh
open EtR (row_cell assert_errno below_of)
set_option linter.unusedVariables false
theorem long_low (B:Nat) (l:List UInt8) (w:World) (h:Rdr w B l) (hn:l.length<4) (hs:l.length≤maxLen) :
  Calls Tryz.prog 274 #[.pointer (some ⟨B,0,none⟩)] w fun e w'=>e=.panicked (errP 1)∧w.grownBy w' (some B):=by
 by_cases h2:l.length<2
 ·have HN:=hide (word_no B l w h h2)
  clear h hs
  go_enter Tryz.func274,Tryz.ntmps274
  go_wp2_with fail
  refine (unhide HN).mono ?_
  rintro e w1 ⟨rfl,rfl⟩
  exact ⟨rfl,rfl,grown_refl _ _⟩
 ·obtain ⟨a,b,r,rfl⟩:∃ a b r,l=a::b::r:=by
   match l,h2 with
   | [],h=>simp at h
   | [_],h=>simp at h
   | a::b::r,_=>exact ⟨a,b,r,rfl⟩
  have hr:r.length<2:=by simp only [List.length_cons] at hn; omega
  have HN:=hide (word_ok B a b r w h hs)
  have HM:=hide (fun u hu=>word_no B r u hu hr)
  clear h hs hn h2
  go_enter Tryz.func274,Tryz.ntmps274
  go_wp2_with fail
  refine (unhide HN).mono ?_
  rintro e w1 ⟨rfl,h1,g1⟩
  have H1:=hide h1
  have G1:=hide g1
  clear h1 g1
  go_wp2_with fail
  refine (unhide HM _ (unhide H1)).mono ?_
  rintro e w2 ⟨rfl,rfl⟩
  exact ⟨rfl,rfl,unhide G1⟩
theorem address_low (B:Nat) (l:List UInt8) (w:World) (h:Rdr w B l) (hn:l.length<4) (hs:l.length≤maxLen) :
  Calls Tryz.prog 245 #[.pointer (some ⟨B,0,none⟩)] w fun e w'=>e=.panicked (errP 1)∧w.grownBy w' (some B):=by
 have HN:=hide (long_low B l w h hn hs)
 clear h hs hn
 go_enter Tryz.func245,Tryz.ntmps245
 go_wp2_with fail
 refine (unhide HN).mono ?_
 rintro e w1 ⟨rfl,g1⟩
 exact ⟨rfl,rfl,g1⟩
theorem byte_low (B:Nat) (l:List UInt8) (w:World) (h:Rdr w B l) (hn:l.length<1) (hs:l.length≤maxLen) :
  Calls Tryz.prog 249 #[.pointer (some ⟨B,0,none⟩)] w fun e w'=>e=.panicked (errP 1)∧w.grownBy w' (some B):=by
 obtain rfl:l=[]:=by cases l with | nil=>rfl | cons a r=>simp at hn
 refine (byte_no B w h).mono ?_
 rintro e w' ⟨rfl,rfl⟩
 exact ⟨rfl,grown_refl _ _⟩
theorem new_reader (w:World) (B:Nat) (s:ByteArray) (h:B=w.heap.size):Rdr (w.alloc (.cells #[.string s] 217)) B s.data.toList:=EtR.new_reader w B s h
theorem not_empty (x:UInt8) (r:List UInt8):(⟨(x::r).toArray⟩:ByteArray).toList.isEmpty=false:=by
 rw [ByteArray.toList_eq]; rfl
theorem more1 (l:List UInt8) (h:¬ l.length<1) (h2:l.length≠1):∃ a x r,l=a::x::r:=by
 match l,h,h2 with
 | [],h,_=>simp at h
 | [_],_,h=>simp at h
 | a::x::r,_,_=>exact ⟨a,x,r,rfl⟩
theorem more4 (l:List UInt8) (h:¬ l.length<4) (h2:l.length≠4):∃ a b c d x r,l=a::b::c::d::x::r:=by
 match l,h,h2 with
 | [],h,_=>simp at h
 | [_],h,_=>simp at h
 | [_,_],h,_=>simp at h
 | [_,_,_],h,_=>simp at h
 | [_,_,_,_],_,h=>simp at h
 | a::b::c::d::x::r,_,_=>exact ⟨a,b,c,d,x,r,rfl⟩
theorem catch_panickingB (p:Addr) (y k:Int) (older:List PanicEntry) (w:World) (hc:w.cell? p=some (.int .i64 y)) (hz:w.frozen? p=false) :
  CallsD Tryz.prog 307 #[.pointer (some p)] (.panicking ({ v:=.iface 58 (.int .i64 k),recovered:=false }::older)) w fun e u' w' =>
   e=.returned (.tuple #[])∧u'=.panicking ({ v:=.iface 58 (.int .i64 k),recovered:=true }::older)∧w'=w.setCell p (.int .i64 k):=by
 refine callsD_of_wpS Tryz.func307 rfl fun c₀ cs hu=>?_
 apply wpS_seq
 apply wpS_region
 simp [wpOpsS,go_sem,recoverD,hu,Tryz.ntmps307,Exit.thenS]
 refine wpS_of_wp ?_
 change Code.wp _ _ _ { tmps:=#[.pointer (some p),.iface 58 (.int .i64 k),.iface 58 (.int .i64 k),undef,undef,undef,undef],defers:=[] } _
 have hta:=fun u=>assert_errno k u
 go_wp2
 exact ⟨rfl,_,rfl,.tuple #[],by simp [results,Tryz.results307],rfl,rfl,rfl⟩
theorem catch_idleB (p:Addr) (w:World) :
  CallsD Tryz.prog 307 #[.pointer (some p)] .returning w fun e u' w'=>e=.returned (.tuple #[])∧u'=.returning∧w'=w:=by
 refine callsD_of_wpS Tryz.func307 rfl fun c₀ cs hu=>?_
 apply wpS_seq
 apply wpS_region
 simp [wpOpsS,go_sem,recoverD,hu,Tryz.ntmps307,Exit.thenS]
 refine wpS_of_wp ?_
 change Code.wp _ _ _ { tmps:=#[.pointer (some p),.nilIface,.nilIface,undef,undef,undef,undef],defers:=[] } _
 go_wp2
 cases c₀
 simp_all [bodyPostS,results,Tryz.results307]
theorem closure_okB (B X:Nat) (a:UInt8) (u:World) (h:Rdr u B ([a])) (hX:u.cell? ⟨X,0,none⟩=some (.func (.func 249) #[] #[])) :
  Calls Tryz.prog 281 #[.pointer (some ⟨B,0,none⟩),.pointer (some ⟨X,0,none⟩)] u fun e w'=>e=.returned (.int .u8 a.toNat)∧u.grownBy w' (some B):=by
 have HN:=hide (byte_ok B a [] u h (by simp [maxLen]))
 have HT:=fun u=>hide (must_ok 2 u)
 clear h
 go_enter Tryz.func281,Tryz.ntmps281
 go_wp2_with fail
 refine (unhide HN).mono ?_
 rintro e w1 ⟨rfl,h1,g1⟩
 have c1:w1.cell? ⟨B,0,none⟩=some (.string ⟨#[]⟩):=cell_of_one h1
 have G1:=hide g1
 clear h1 g1
 go_wp2_with fail
 refine (unhide (HT _)).mono ?_
 rintro e w2 ⟨rfl,rfl⟩
 go_wp2
 go_ret
 exact ⟨rfl,unhide G1⟩
theorem closure_noB (B X:Nat) (l:List UInt8) (u:World) (h:Rdr u B l) (hl:l.length≠1) (hs:l.length≤maxLen) (hX:u.cell? ⟨X,0,none⟩=some (.func (.func 249) #[] #[])) :
  Calls Tryz.prog 281 #[.pointer (some ⟨B,0,none⟩),.pointer (some ⟨X,0,none⟩)] u fun e w'=>(∃ k,(k=1∨k=2)∧e=.panicked (errP k))∧u.grownBy w' (some B):=by
 by_cases hn:l.length<1
 ·have HN:=hide (byte_low B l u h hn hs)
  clear h hl
  go_enter Tryz.func281,Tryz.ntmps281
  go_wp2_with fail
  refine (unhide HN).mono ?_
  rintro e w1 ⟨rfl,g1⟩
  exact ⟨rfl,⟨1,Or.inl rfl,rfl⟩,g1⟩
 ·obtain ⟨a,x,r,rfl⟩:∃ a x r,l=a::x::r:=more1 l hn hl
  have HN:=hide (byte_ok B a (x::r) u h hs)
  have HT:=fun u=>hide (must_no 2 u)
  clear h hl hn hs
  go_enter Tryz.func281,Tryz.ntmps281
  go_wp2_with fail
  refine (unhide HN).mono ?_
  rintro e w1 ⟨rfl,h1,g1⟩
  have c1:w1.cell? ⟨B,0,none⟩=some (.string ⟨(x::r).toArray⟩):=cell_of_one h1
  have hne:(⟨(x::r).toArray⟩:ByteArray).toList.isEmpty=false:=not_empty x r
  obtain ⟨y,hy⟩:∃ y:ByteArray,y=⟨(x::r).toArray⟩:=⟨_,rfl⟩
  rw [← hy] at c1 hne
  have G1:=hide g1
  clear h1 g1 hy
  go_wp2_with fail
  refine (unhide (HT _)).mono ?_
  rintro e w2 ⟨rfl,rfl⟩
  exact ⟨rfl,⟨2,Or.inr rfl,rfl⟩,unhide G1⟩
theorem blocksB {w w1 W:World} {s:ByteArray} (g:W.grownBy w1 (some (w.heap.size+1))) (hW:W=(w.alloc (.cells #[.int .i64 0] 58)).alloc (.cells #[.string s] 217)) :
  w1.heap[w.heap.size]?=some (.cells #[.int .i64 0] 58 (0,0)):=by
 have e1:W.heap[w.heap.size]?=some (.cells #[.int .i64 0] 58 (0,0)):=by
  rw [hW,Below.heap_alloc _ _ _ (by simp)]; exact heap_alloc_new w _
 exact (g.block _ (lt_of_block e1) (fun q=>by simp at q)).trans e1
set_option maxHeartbeats 1000000 in
theorem read_noB (s:ByteArray) (X:Nat) (w:World) (hX:w.cell? ⟨X,0,none⟩=some (.func (.func 249) #[] #[])) (hl:s.data.toList.length≠1) (hs:s.data.toList.length≤maxLen) :
  Calls Tryz.prog 280 #[.string s,.func (.func 281) #[] #[.pointer (some ⟨X,0,none⟩)]] w fun ee w'=>(∃ k,(k=1∨k=2)∧ee=.returned (.tuple #[.int .u8 0,.int .i64 k]))∧Below w.heap.size w w':=by
 have hmf:∀ (fn:Fn) (first cap:Array Value) (w:World),(Instr.makeFunc fn first cap).run Tryz.prog w=.ok (.func fn first cap) w:=fun _ _ _ _=>rfl
 have hXl:X<w.heap.size:=World.block_lt_of_cell? w _ hX
 have HR:=hide (closure_noB (w.heap.size+1) X s.data.toList ((w.alloc (.cells #[.int .i64 0] 58)).alloc (.cells #[.string s] 217)) (new_reader _ _ s (by simp)) hl hs ((World.cell?_of_block ((Below.heap_alloc _ _ _ (by simp; omega)).trans (Below.heap_alloc _ _ _ hXl))).trans hX))
 clear hX hl hs hXl
 go_enter_defers Tryz.func280,Tryz.ntmps280
 go_wp2_with fail
 refine (unhide HR).mono ?_
 rintro ee w1 ⟨⟨k,hk,rfl⟩,g1⟩
 have he:=blocksB g1 rfl
 have hc:=cell_of_one he
 have hf:=free_of_one he
 refine leaves_cons (f:=307) (args:=#[.pointer (some ⟨w.heap.size,0,none⟩)]) (by simp) (by simp [go_sem]) ?_
 refine (catch_panickingB ⟨w.heap.size,0,none⟩ 0 k [] _ hc hf).mono ?_
 rintro e u' w'' ⟨rfl,rfl,rfl⟩
 simp [Leaves,settle,results,Tryz.results280,go_sem,hc]
 exact ⟨hk,(below_of g1 (((Below.refl _ w).alloc (Nat.le_refl _) _).alloc (by simp) _) (by omega)).setCell (by simp) _⟩
set_option maxHeartbeats 1000000 in
theorem read_okB (s:ByteArray) (X:Nat) (a:UInt8) (w:World) (hX:w.cell? ⟨X,0,none⟩=some (.func (.func 249) #[] #[])) (hl:s.data.toList=[a]) :
  Calls Tryz.prog 280 #[.string s,.func (.func 281) #[] #[.pointer (some ⟨X,0,none⟩)]] w fun ee w'=>ee=.returned (.tuple #[.int .u8 a.toNat,.int .i64 0])∧Below w.heap.size w w':=by
 have hmf:∀ (fn:Fn) (first cap:Array Value) (w:World),(Instr.makeFunc fn first cap).run Tryz.prog w=.ok (.func fn first cap) w:=fun _ _ _ _=>rfl
 have hXl:X<w.heap.size:=World.block_lt_of_cell? w _ hX
 have HR:=hide (closure_okB (w.heap.size+1) X a ((w.alloc (.cells #[.int .i64 0] 58)).alloc (.cells #[.string s] 217)) (by have q:=new_reader (w.alloc (.cells #[.int .i64 0] 58)) (w.heap.size+1) s (by simp); rw [hl] at q; exact q) ((World.cell?_of_block ((Below.heap_alloc _ _ _ (by simp; omega)).trans (Below.heap_alloc _ _ _ hXl))).trans hX))
 obtain ⟨v,hv⟩:∃ v:Int,v=a.toNat:=⟨_,rfl⟩
 rw [← hv] at HR ⊢
 clear hX hl hXl hv
 go_enter_defers Tryz.func280,Tryz.ntmps280
 go_wp2_with fail
 refine (unhide HR).mono ?_
 rintro ee w1 ⟨rfl,g1⟩
 have he:=blocksB g1 rfl
 have hc:=cell_of_one he
 have hf:=free_of_one he
 have HB:=hide (below_of g1 (((Below.refl _ w).alloc (Nat.le_refl _) _).alloc (by simp) _) (by omega))
 have hs2:=cell_of_one (one_setCell (u:=.int .i64 0) he)
 clear g1 he HR
 go_wp2
 refine leaves_cons (f:=307) (args:=#[.pointer (some ⟨w.heap.size,0,none⟩)]) (by simp) (by simp [go_sem]) ?_
 refine (catch_idleB ⟨w.heap.size,0,none⟩ _).mono ?_
 rintro e u' w'' ⟨rfl,rfl,rfl⟩
 simp [Leaves,settle,results,Tryz.results280,go_sem,hs2]
 exact (unhide HB).setCell (by simp) _
set_option maxHeartbeats 1000000 in
theorem whole_okB (a0:Option Addr) (cap:Nat) (os:Opts) (cd:UInt8) (a:UInt8) (w:World) (hA:At w a0 os) (hl:heavy os≤268435456) (hd:data os cd=[a]) :
  Calls Tryz.prog 253 #[.slice a0 os.length cap,.int .u8 cd.toNat,(.func (.func 249) #[] #[])] w fun ee w'=>ee=.returned (.tuple #[.int .u8 a.toNat,.bool true])∧Below w.heap.size w w':=by
 have hmf:∀ (fn:Fn) (first cap:Array Value) (w:World),(Instr.makeFunc fn first cap).run Tryz.prog w=.ok (.func fn first cap) w:=fun _ _ _ _=>rfl
 have HD:=hide (data_any a0 cap os cd (w.alloc (.cells #[(.func (.func 249) #[] #[])] 294)) (hA.below ((Below.refl w.heap.size w).alloc (Nat.le_refl _) _) (Nat.le_refl _)) hl)
 rw [hd] at HD
 have HR:=fun (u:World) hX=>hide (read_okB ⟨([a]:List UInt8).toArray⟩ w.heap.size a u hX rfl)
 obtain ⟨v,hv⟩:∃ v:Int,v=a.toNat:=⟨_,rfl⟩
 obtain ⟨s,hs⟩:∃ s:ByteArray,s=⟨([a]:List UInt8).toArray⟩:=⟨_,rfl⟩
 rw [← hv,← hs] at HR
 rw [← hs] at HD
 rw [← hv]
 clear hA hl hd hv hs
 go_enter Tryz.func253,Tryz.ntmps253
 go_wp2_with fail
 refine (unhide HD).mono ?_
 rintro ee u1 ⟨rfl,hb1⟩
 have hx:u1.cell? ⟨w.heap.size,0,none⟩=some (.func (.func 249) #[] #[]):=(hb1.cell (p:=⟨w.heap.size,0,none⟩) (by simp)).trans (cell_of_row _ _ 0 _ _ _ (heap_alloc_new w _))
 have HB1:=hide (((Below.refl w.heap.size w).alloc (Nat.le_refl _) _).trans (hb1.mono (by simp)))
 have HRR:=hide (unhide (HR u1 hx))
 clear hb1 HD HR hx
 go_wp2_with fail
 refine (unhide HRR).mono ?_
 rintro ee u2 ⟨rfl,hb2⟩
 have HB2:=hide ((unhide HB1).trans (hb2.mono (unhide HB1).size))
 clear hb2 HRR
 go_wp2
 go_returns
 exact ⟨rfl,unhide HB2⟩
set_option maxHeartbeats 1000000 in
theorem whole_noB (a0:Option Addr) (cap:Nat) (os:Opts) (cd:UInt8) (w:World) (hA:At w a0 os) (hl:heavy os≤268435456) (hd:(data os cd).length≠1) :
  Calls Tryz.prog 253 #[.slice a0 os.length cap,.int .u8 cd.toNat,(.func (.func 249) #[] #[])] w fun ee w'=>ee=.returned (.tuple #[.int .u8 0,.bool false])∧Below w.heap.size w w':=by
 have hmf:∀ (fn:Fn) (first cap:Array Value) (w:World),(Instr.makeFunc fn first cap).run Tryz.prog w=.ok (.func fn first cap) w:=fun _ _ _ _=>rfl
 have HD:=hide (data_any a0 cap os cd (w.alloc (.cells #[(.func (.func 249) #[] #[])] 294)) (hA.below ((Below.refl w.heap.size w).alloc (Nat.le_refl _) _) (Nat.le_refl _)) hl)
 have hlen:(data os cd).length≤maxLen:=by have:=data_le os cd; unfold maxLen; omega
 have HR:=fun (u:World) hX=>hide (read_noB ⟨(data os cd).toArray⟩ w.heap.size u hX (by simpa using hd) (by simpa using hlen))
 obtain ⟨s,hs⟩:∃ s:ByteArray,s=⟨(data os cd).toArray⟩:=⟨_,rfl⟩
 rw [← hs] at HR HD
 clear hA hl hd hs hlen
 go_enter Tryz.func253,Tryz.ntmps253
 go_wp2_with fail
 refine (unhide HD).mono ?_
 rintro ee u1 ⟨rfl,hb1⟩
 have hx:u1.cell? ⟨w.heap.size,0,none⟩=some (.func (.func 249) #[] #[]):=(hb1.cell (p:=⟨w.heap.size,0,none⟩) (by simp)).trans (cell_of_row _ _ 0 _ _ _ (heap_alloc_new w _))
 have HB1:=hide (((Below.refl w.heap.size w).alloc (Nat.le_refl _) _).trans (hb1.mono (by simp)))
 have HRR:=hide (unhide (HR u1 hx))
 clear hb1 HD HR hx
 go_wp2_with fail
 refine (unhide HRR).mono ?_
 rintro ee u2 ⟨⟨k,hk,rfl⟩,hb2⟩
 have HB2:=hide ((unhide HB1).trans (hb2.mono (unhide HB1).size))
 have hk2:(k==0)=false:=by rcases hk with rfl | rfl <;> rfl
 clear hb2 HRR hk
 go_wp2
 go_returns
 exact ⟨rfl,unhide HB2⟩
theorem opt_okB (a0:Option Addr) (cap:Nat) (os:Opts) (cd:UInt8) (a:UInt8) (w:World) (hA:At w a0 os) (hl:heavy os≤268435456) (hd:data os cd=[a]) :
  Calls Tryz.prog 214 #[.slice a0 os.length cap,.int .u8 cd.toNat] w fun ee w'=>ee=.returned (.tuple #[.int .u8 a.toNat,.bool true])∧Below w.heap.size w w':=by
 have HW:=hide (whole_okB a0 cap os cd a w hA hl hd)
 obtain ⟨v,hv⟩:∃ v:Int,v=a.toNat:=⟨_,rfl⟩
 rw [← hv] at HW ⊢
 clear hv
 clear hA hl hd
 go_enter Tryz.func214,Tryz.ntmps214
 go_wp2_with fail
 refine (unhide HW).mono ?_
 rintro ee u1 ⟨rfl,hb1⟩
 have HB1:=hide hb1
 clear hb1 HW
 go_wp2
 go_returns
 exact ⟨rfl,unhide HB1⟩
theorem opt_noB (a0:Option Addr) (cap:Nat) (os:Opts) (cd:UInt8) (w:World) (hA:At w a0 os) (hl:heavy os≤268435456) (hd:(data os cd).length≠1) :
  Calls Tryz.prog 214 #[.slice a0 os.length cap,.int .u8 cd.toNat] w fun ee w'=>ee=.returned (.tuple #[.int .u8 0,.bool false])∧Below w.heap.size w w':=by
 have HW:=hide (whole_noB a0 cap os cd w hA hl hd)
 clear hA hl hd
 go_enter Tryz.func214,Tryz.ntmps214
 go_wp2_with fail
 refine (unhide HW).mono ?_
 rintro ee u1 ⟨rfl,hb1⟩
 have HB1:=hide hb1
 clear hb1 HW
 go_wp2
 go_returns
 exact ⟨rfl,unhide HB1⟩
theorem catch_panickingA (p:Addr) (y k:Int) (older:List PanicEntry) (w:World) (hc:w.cell? p=some (.int .i64 y)) (hz:w.frozen? p=false) :
  CallsD Tryz.prog 308 #[.pointer (some p)] (.panicking ({ v:=.iface 58 (.int .i64 k),recovered:=false }::older)) w fun e u' w' =>
   e=.returned (.tuple #[])∧u'=.panicking ({ v:=.iface 58 (.int .i64 k),recovered:=true }::older)∧w'=w.setCell p (.int .i64 k):=by
 refine callsD_of_wpS Tryz.func308 rfl fun c₀ cs hu=>?_
 apply wpS_seq
 apply wpS_region
 simp [wpOpsS,go_sem,recoverD,hu,Tryz.ntmps308,Exit.thenS]
 refine wpS_of_wp ?_
 change Code.wp _ _ _ { tmps:=#[.pointer (some p),.iface 58 (.int .i64 k),.iface 58 (.int .i64 k),undef,undef,undef,undef],defers:=[] } _
 have hta:=fun u=>assert_errno k u
 go_wp2
 exact ⟨rfl,_,rfl,.tuple #[],by simp [results,Tryz.results308],rfl,rfl,rfl⟩
theorem catch_idleA (p:Addr) (w:World) :
  CallsD Tryz.prog 308 #[.pointer (some p)] .returning w fun e u' w'=>e=.returned (.tuple #[])∧u'=.returning∧w'=w:=by
 refine callsD_of_wpS Tryz.func308 rfl fun c₀ cs hu=>?_
 apply wpS_seq
 apply wpS_region
 simp [wpOpsS,go_sem,recoverD,hu,Tryz.ntmps308,Exit.thenS]
 refine wpS_of_wp ?_
 change Code.wp _ _ _ { tmps:=#[.pointer (some p),.nilIface,.nilIface,undef,undef,undef,undef],defers:=[] } _
 go_wp2
 cases c₀
 simp_all [bodyPostS,results,Tryz.results308]
theorem closure_okA (B X:Nat) (a b c d:UInt8) (u:World) (h:Rdr u B ([a,b,c,d])) (hX:u.cell? ⟨X,0,none⟩=some (.func (.func 245) #[] #[])) :
  Calls Tryz.prog 283 #[.pointer (some ⟨B,0,none⟩),.pointer (some ⟨X,0,none⟩)] u fun e w'=>e=.returned (.int .u32 (16777216*(a.toNat:Int)+65536*(b.toNat:Int)+256*(c.toNat:Int)+(d.toNat:Int)))∧u.grownBy w' (some B):=by
 have HN:=hide (address_ok B a b c d [] u h (by simp [maxLen]))
 have HT:=fun u=>hide (must_ok 2 u)
 clear h
 go_enter Tryz.func283,Tryz.ntmps283
 go_wp2_with fail
 refine (unhide HN).mono ?_
 rintro e w1 ⟨rfl,h1,g1⟩
 have c1:w1.cell? ⟨B,0,none⟩=some (.string ⟨#[]⟩):=cell_of_one h1
 have G1:=hide g1
 clear h1 g1
 go_wp2_with fail
 refine (unhide (HT _)).mono ?_
 rintro e w2 ⟨rfl,rfl⟩
 go_wp2
 go_ret
 exact ⟨rfl,unhide G1⟩
theorem closure_noA (B X:Nat) (l:List UInt8) (u:World) (h:Rdr u B l) (hl:l.length≠4) (hs:l.length≤maxLen) (hX:u.cell? ⟨X,0,none⟩=some (.func (.func 245) #[] #[])) :
  Calls Tryz.prog 283 #[.pointer (some ⟨B,0,none⟩),.pointer (some ⟨X,0,none⟩)] u fun e w'=>(∃ k,(k=1∨k=2)∧e=.panicked (errP k))∧u.grownBy w' (some B):=by
 by_cases hn:l.length<4
 ·have HN:=hide (address_low B l u h hn hs)
  clear h hl
  go_enter Tryz.func283,Tryz.ntmps283
  go_wp2_with fail
  refine (unhide HN).mono ?_
  rintro e w1 ⟨rfl,g1⟩
  exact ⟨rfl,⟨1,Or.inl rfl,rfl⟩,g1⟩
 ·obtain ⟨a,b,c,d,x,r,rfl⟩:∃ a b c d x r,l=a::b::c::d::x::r:=more4 l hn hl
  have HN:=hide (address_ok B a b c d (x::r) u h hs)
  have HT:=fun u=>hide (must_no 2 u)
  clear h hl hn hs
  go_enter Tryz.func283,Tryz.ntmps283
  go_wp2_with fail
  refine (unhide HN).mono ?_
  rintro e w1 ⟨rfl,h1,g1⟩
  have c1:w1.cell? ⟨B,0,none⟩=some (.string ⟨(x::r).toArray⟩):=cell_of_one h1
  have hne:(⟨(x::r).toArray⟩:ByteArray).toList.isEmpty=false:=not_empty x r
  obtain ⟨y,hy⟩:∃ y:ByteArray,y=⟨(x::r).toArray⟩:=⟨_,rfl⟩
  rw [← hy] at c1 hne
  have G1:=hide g1
  clear h1 g1 hy
  go_wp2_with fail
  refine (unhide (HT _)).mono ?_
  rintro e w2 ⟨rfl,rfl⟩
  exact ⟨rfl,⟨2,Or.inr rfl,rfl⟩,unhide G1⟩
theorem blocksA {w w1 W:World} {s:ByteArray} (g:W.grownBy w1 (some (w.heap.size+1))) (hW:W=(w.alloc (.cells #[.int .i64 0] 58)).alloc (.cells #[.string s] 217)) :
  w1.heap[w.heap.size]?=some (.cells #[.int .i64 0] 58 (0,0)):=by
 have e1:W.heap[w.heap.size]?=some (.cells #[.int .i64 0] 58 (0,0)):=by
  rw [hW,Below.heap_alloc _ _ _ (by simp)]; exact heap_alloc_new w _
 exact (g.block _ (lt_of_block e1) (fun q=>by simp at q)).trans e1
set_option maxHeartbeats 1000000 in
theorem read_noA (s:ByteArray) (X:Nat) (w:World) (hX:w.cell? ⟨X,0,none⟩=some (.func (.func 245) #[] #[])) (hl:s.data.toList.length≠4) (hs:s.data.toList.length≤maxLen) :
  Calls Tryz.prog 282 #[.string s,.func (.func 283) #[] #[.pointer (some ⟨X,0,none⟩)]] w fun ee w'=>(∃ k,(k=1∨k=2)∧ee=.returned (.tuple #[.int .u32 0,.int .i64 k]))∧Below w.heap.size w w':=by
 have hmf:∀ (fn:Fn) (first cap:Array Value) (w:World),(Instr.makeFunc fn first cap).run Tryz.prog w=.ok (.func fn first cap) w:=fun _ _ _ _=>rfl
 have hXl:X<w.heap.size:=World.block_lt_of_cell? w _ hX
 have HR:=hide (closure_noA (w.heap.size+1) X s.data.toList ((w.alloc (.cells #[.int .i64 0] 58)).alloc (.cells #[.string s] 217)) (new_reader _ _ s (by simp)) hl hs ((World.cell?_of_block ((Below.heap_alloc _ _ _ (by simp; omega)).trans (Below.heap_alloc _ _ _ hXl))).trans hX))
 clear hX hl hs hXl
 go_enter_defers Tryz.func282,Tryz.ntmps282
 go_wp2_with fail
 refine (unhide HR).mono ?_
 rintro ee w1 ⟨⟨k,hk,rfl⟩,g1⟩
 have he:=blocksA g1 rfl
 have hc:=cell_of_one he
 have hf:=free_of_one he
 refine leaves_cons (f:=308) (args:=#[.pointer (some ⟨w.heap.size,0,none⟩)]) (by simp) (by simp [go_sem]) ?_
 refine (catch_panickingA ⟨w.heap.size,0,none⟩ 0 k [] _ hc hf).mono ?_
 rintro e u' w'' ⟨rfl,rfl,rfl⟩
 simp [Leaves,settle,results,Tryz.results282,go_sem,hc]
 exact ⟨hk,(below_of g1 (((Below.refl _ w).alloc (Nat.le_refl _) _).alloc (by simp) _) (by omega)).setCell (by simp) _⟩
set_option maxHeartbeats 1000000 in
theorem read_okA (s:ByteArray) (X:Nat) (a b c d:UInt8) (w:World) (hX:w.cell? ⟨X,0,none⟩=some (.func (.func 245) #[] #[])) (hl:s.data.toList=[a,b,c,d]) :
  Calls Tryz.prog 282 #[.string s,.func (.func 283) #[] #[.pointer (some ⟨X,0,none⟩)]] w fun ee w'=>ee=.returned (.tuple #[.int .u32 (16777216*(a.toNat:Int)+65536*(b.toNat:Int)+256*(c.toNat:Int)+(d.toNat:Int)),.int .i64 0])∧Below w.heap.size w w':=by
 have hmf:∀ (fn:Fn) (first cap:Array Value) (w:World),(Instr.makeFunc fn first cap).run Tryz.prog w=.ok (.func fn first cap) w:=fun _ _ _ _=>rfl
 have hXl:X<w.heap.size:=World.block_lt_of_cell? w _ hX
 have HR:=hide (closure_okA (w.heap.size+1) X a b c d ((w.alloc (.cells #[.int .i64 0] 58)).alloc (.cells #[.string s] 217)) (by have q:=new_reader (w.alloc (.cells #[.int .i64 0] 58)) (w.heap.size+1) s (by simp); rw [hl] at q; exact q) ((World.cell?_of_block ((Below.heap_alloc _ _ _ (by simp; omega)).trans (Below.heap_alloc _ _ _ hXl))).trans hX))
 obtain ⟨v,hv⟩:∃ v:Int,v=(16777216*(a.toNat:Int)+65536*(b.toNat:Int)+256*(c.toNat:Int)+(d.toNat:Int)):=⟨_,rfl⟩
 rw [← hv] at HR ⊢
 clear hX hl hXl hv
 go_enter_defers Tryz.func282,Tryz.ntmps282
 go_wp2_with fail
 refine (unhide HR).mono ?_
 rintro ee w1 ⟨rfl,g1⟩
 have he:=blocksA g1 rfl
 have hc:=cell_of_one he
 have hf:=free_of_one he
 have HB:=hide (below_of g1 (((Below.refl _ w).alloc (Nat.le_refl _) _).alloc (by simp) _) (by omega))
 have hs2:=cell_of_one (one_setCell (u:=.int .i64 0) he)
 clear g1 he HR
 go_wp2
 refine leaves_cons (f:=308) (args:=#[.pointer (some ⟨w.heap.size,0,none⟩)]) (by simp) (by simp [go_sem]) ?_
 refine (catch_idleA ⟨w.heap.size,0,none⟩ _).mono ?_
 rintro e u' w'' ⟨rfl,rfl,rfl⟩
 simp [Leaves,settle,results,Tryz.results282,go_sem,hs2]
 exact (unhide HB).setCell (by simp) _
set_option maxHeartbeats 1000000 in
theorem whole_okA (a0:Option Addr) (cap:Nat) (os:Opts) (cd:UInt8) (a b c d:UInt8) (w:World) (hA:At w a0 os) (hl:heavy os≤268435456) (hd:data os cd=[a,b,c,d]) :
  Calls Tryz.prog 254 #[.slice a0 os.length cap,.int .u8 cd.toNat,(.func (.func 245) #[] #[])] w fun ee w'=>ee=.returned (.tuple #[.int .u32 (16777216*(a.toNat:Int)+65536*(b.toNat:Int)+256*(c.toNat:Int)+(d.toNat:Int)),.bool true])∧Below w.heap.size w w':=by
 have hmf:∀ (fn:Fn) (first cap:Array Value) (w:World),(Instr.makeFunc fn first cap).run Tryz.prog w=.ok (.func fn first cap) w:=fun _ _ _ _=>rfl
 have HD:=hide (data_any a0 cap os cd (w.alloc (.cells #[(.func (.func 245) #[] #[])] 296)) (hA.below ((Below.refl w.heap.size w).alloc (Nat.le_refl _) _) (Nat.le_refl _)) hl)
 rw [hd] at HD
 have HR:=fun (u:World) hX=>hide (read_okA ⟨([a,b,c,d]:List UInt8).toArray⟩ w.heap.size a b c d u hX rfl)
 obtain ⟨v,hv⟩:∃ v:Int,v=(16777216*(a.toNat:Int)+65536*(b.toNat:Int)+256*(c.toNat:Int)+(d.toNat:Int)):=⟨_,rfl⟩
 obtain ⟨s,hs⟩:∃ s:ByteArray,s=⟨([a,b,c,d]:List UInt8).toArray⟩:=⟨_,rfl⟩
 rw [← hv,← hs] at HR
 rw [← hs] at HD
 rw [← hv]
 clear hA hl hd hv hs
 go_enter Tryz.func254,Tryz.ntmps254
 go_wp2_with fail
 refine (unhide HD).mono ?_
 rintro ee u1 ⟨rfl,hb1⟩
 have hx:u1.cell? ⟨w.heap.size,0,none⟩=some (.func (.func 245) #[] #[]):=(hb1.cell (p:=⟨w.heap.size,0,none⟩) (by simp)).trans (cell_of_row _ _ 0 _ _ _ (heap_alloc_new w _))
 have HB1:=hide (((Below.refl w.heap.size w).alloc (Nat.le_refl _) _).trans (hb1.mono (by simp)))
 have HRR:=hide (unhide (HR u1 hx))
 clear hb1 HD HR hx
 go_wp2_with fail
 refine (unhide HRR).mono ?_
 rintro ee u2 ⟨rfl,hb2⟩
 have HB2:=hide ((unhide HB1).trans (hb2.mono (unhide HB1).size))
 clear hb2 HRR
 go_wp2
 go_returns
 exact ⟨rfl,unhide HB2⟩
set_option maxHeartbeats 1000000 in
theorem whole_noA (a0:Option Addr) (cap:Nat) (os:Opts) (cd:UInt8) (w:World) (hA:At w a0 os) (hl:heavy os≤268435456) (hd:(data os cd).length≠4) :
  Calls Tryz.prog 254 #[.slice a0 os.length cap,.int .u8 cd.toNat,(.func (.func 245) #[] #[])] w fun ee w'=>ee=.returned (.tuple #[.int .u32 0,.bool false])∧Below w.heap.size w w':=by
 have hmf:∀ (fn:Fn) (first cap:Array Value) (w:World),(Instr.makeFunc fn first cap).run Tryz.prog w=.ok (.func fn first cap) w:=fun _ _ _ _=>rfl
 have HD:=hide (data_any a0 cap os cd (w.alloc (.cells #[(.func (.func 245) #[] #[])] 296)) (hA.below ((Below.refl w.heap.size w).alloc (Nat.le_refl _) _) (Nat.le_refl _)) hl)
 have hlen:(data os cd).length≤maxLen:=by have:=data_le os cd; unfold maxLen; omega
 have HR:=fun (u:World) hX=>hide (read_noA ⟨(data os cd).toArray⟩ w.heap.size u hX (by simpa using hd) (by simpa using hlen))
 obtain ⟨s,hs⟩:∃ s:ByteArray,s=⟨(data os cd).toArray⟩:=⟨_,rfl⟩
 rw [← hs] at HR HD
 clear hA hl hd hs hlen
 go_enter Tryz.func254,Tryz.ntmps254
 go_wp2_with fail
 refine (unhide HD).mono ?_
 rintro ee u1 ⟨rfl,hb1⟩
 have hx:u1.cell? ⟨w.heap.size,0,none⟩=some (.func (.func 245) #[] #[]):=(hb1.cell (p:=⟨w.heap.size,0,none⟩) (by simp)).trans (cell_of_row _ _ 0 _ _ _ (heap_alloc_new w _))
 have HB1:=hide (((Below.refl w.heap.size w).alloc (Nat.le_refl _) _).trans (hb1.mono (by simp)))
 have HRR:=hide (unhide (HR u1 hx))
 clear hb1 HD HR hx
 go_wp2_with fail
 refine (unhide HRR).mono ?_
 rintro ee u2 ⟨⟨k,hk,rfl⟩,hb2⟩
 have HB2:=hide ((unhide HB1).trans (hb2.mono (unhide HB1).size))
 have hk2:(k==0)=false:=by rcases hk with rfl | rfl <;> rfl
 clear hb2 HRR hk
 go_wp2
 go_returns
 exact ⟨rfl,unhide HB2⟩
theorem opt_okA (a0:Option Addr) (cap:Nat) (os:Opts) (cd:UInt8) (a b c d:UInt8) (w:World) (hA:At w a0 os) (hl:heavy os≤268435456) (hd:data os cd=[a,b,c,d]) :
  Calls Tryz.prog 215 #[.slice a0 os.length cap,.int .u8 cd.toNat] w fun ee w'=>ee=.returned (.tuple #[.int .u32 (16777216*(a.toNat:Int)+65536*(b.toNat:Int)+256*(c.toNat:Int)+(d.toNat:Int)),.bool true])∧Below w.heap.size w w':=by
 have HW:=hide (whole_okA a0 cap os cd a b c d w hA hl hd)
 obtain ⟨v,hv⟩:∃ v:Int,v=(16777216*(a.toNat:Int)+65536*(b.toNat:Int)+256*(c.toNat:Int)+(d.toNat:Int)):=⟨_,rfl⟩
 rw [← hv] at HW ⊢
 clear hv
 clear hA hl hd
 go_enter Tryz.func215,Tryz.ntmps215
 go_wp2_with fail
 refine (unhide HW).mono ?_
 rintro ee u1 ⟨rfl,hb1⟩
 have HB1:=hide hb1
 clear hb1 HW
 go_wp2
 go_returns
 exact ⟨rfl,unhide HB1⟩
theorem opt_noA (a0:Option Addr) (cap:Nat) (os:Opts) (cd:UInt8) (w:World) (hA:At w a0 os) (hl:heavy os≤268435456) (hd:(data os cd).length≠4) :
  Calls Tryz.prog 215 #[.slice a0 os.length cap,.int .u8 cd.toNat] w fun ee w'=>ee=.returned (.tuple #[.int .u32 0,.bool false])∧Below w.heap.size w w':=by
 have HW:=hide (whole_noA a0 cap os cd w hA hl hd)
 clear hA hl hd
 go_enter Tryz.func215,Tryz.ntmps215
 go_wp2_with fail
 refine (unhide HW).mono ?_
 rintro ee u1 ⟨rfl,hb1⟩
 have HB1:=hide hb1
 clear hb1 HW
 go_wp2
 go_returns
 exact ⟨rfl,unhide HB1⟩
end Go.Proofs.YtbhbbeebncmaiaaGreatDoor.Opt
