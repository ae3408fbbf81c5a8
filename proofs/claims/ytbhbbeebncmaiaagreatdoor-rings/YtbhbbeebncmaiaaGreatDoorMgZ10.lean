import Derived.Test.YtbhbbeebncmaiaaGreatDoorMgZ09
import Derived.Test.YtbhbbeebncmaiaaGreatDoorMgZ01
namespace Go.Proofs.YtbhbbeebncmaiaaGreatDoor.EtR
open Go.ChangeShapes Go.WideShapes Go.ChangeAt Go.RowKit Bs Rd
set_option linter.unusedVariables false
set_option maxHeartbeats 1000000 in
theorem getType_short (B:Nat) (l:List UInt8) (w:World) (h:Rdr w B l) (hn:l.length<2) :
  Calls Tryz.prog 161 #[.pointer (some ⟨B,0,none⟩),.func (.func 162) #[] #[],.func (.func 163) #[] #[],.int .i64 3] w fun e w'=>e=.panicked (errP 1)∧w.grownBy w' (some B):=by
 have HN:=hide (word_no B l w h hn)
 clear h
 go_enter Tryz.func161,Tryz.ntmps161
 go_wp2_with fail
 refine (unhide HN).mono ?_
 rintro e w1 ⟨rfl,rfl⟩
 exact ⟨rfl,rfl,grown_refl _ _⟩

set_option maxHeartbeats 1000000 in
theorem getType_ok (B:Nat) (a b:UInt8) (l:List UInt8) (w:World) (h:Rdr w B (a::b::l)) (hs:(a::b::l).length≤maxLen) (ht:Eth.okTy (256*(a.toNat:Int)+(b.toNat:Int))=true) :
  Calls Tryz.prog 161 #[.pointer (some ⟨B,0,none⟩),.func (.func 162) #[] #[],.func (.func 163) #[] #[],.int .i64 3] w fun e w'=>e=.returned (.int .u16 (256*(a.toNat:Int)+(b.toNat:Int)))∧Rdr w' B l∧w.grownBy w' (some B):=by
 have HN:=hide (word_ok B a b l w h hs)
 obtain ⟨x,hx⟩:∃ x,x=256*(a.toNat:Int)+(b.toNat:Int):=⟨_,rfl⟩
 rw [← hx] at HN ht ⊢
 have HT:=hide ht
 have HI:=hide (fun u=>Eth.isType_any x u)
 clear h hx hs ht
 go_enter Tryz.func161,Tryz.ntmps161
 go_wp2_with fail
 refine (unhide HN).mono ?_
 rintro e w1 ⟨rfl,h1,g1⟩
 have H1:=hide h1
 have G1:=hide g1
 clear h1 g1
 go_wp2_with fail
 refine (unhide HI _).mono ?_
 rintro e w2 ⟨rfl,rfl⟩
 rw [unhide HT]
 go_wp2_with fail
 refine (must_ok _ _).mono ?_
 rintro _ w3 ⟨rfl,rfl⟩
 go_wp2
 go_ret
 exact ⟨rfl,unhide H1,unhide G1⟩

set_option maxHeartbeats 1000000 in
theorem getType_no (B:Nat) (a b:UInt8) (l:List UInt8) (w:World) (h:Rdr w B (a::b::l)) (hs:(a::b::l).length≤maxLen) (ht:Eth.okTy (256*(a.toNat:Int)+(b.toNat:Int))=false) :
  Calls Tryz.prog 161 #[.pointer (some ⟨B,0,none⟩),.func (.func 162) #[] #[],.func (.func 163) #[] #[],.int .i64 3] w fun e w'=>e=.panicked (errP 3)∧w.grownBy w' (some B):=by
 have HN:=hide (word_ok B a b l w h hs)
 obtain ⟨x,hx⟩:∃ x,x=256*(a.toNat:Int)+(b.toNat:Int):=⟨_,rfl⟩
 rw [← hx] at HN ht
 have HT:=hide ht
 have HI:=hide (fun u=>Eth.isType_any x u)
 clear h hx hs ht
 go_enter Tryz.func161,Tryz.ntmps161
 go_wp2_with fail
 refine (unhide HN).mono ?_
 rintro e w1 ⟨rfl,h1,g1⟩
 have G1:=hide g1
 clear h1 g1
 go_wp2_with fail
 refine (unhide HI _).mono ?_
 rintro e w2 ⟨rfl,rfl⟩
 rw [unhide HT]
 go_wp2_with fail
 refine (must_no _ _).mono ?_
 rintro _ w3 ⟨rfl,rfl⟩
 exact ⟨rfl,rfl,unhide G1⟩

set_option maxHeartbeats 1000000 in
theorem getLoad_ok (B:Nat) (l:List UInt8) (w:World) (h:Rdr w B l) (hs:l.length≤1099511627776) (ht:Eth.okLoad ⟨l.toArray⟩=true) :
  Calls Tryz.prog 164 #[.pointer (some ⟨B,0,none⟩),.func (.func 165) #[] #[],.func (.func 166) #[] #[],.int .i64 7] w fun e w'=>e=.returned (.string ⟨l.toArray⟩)∧Rdr w' B []∧w.grownBy w' (some B):=by
 have HN:=hide (remaining_ok B l w h hs)
 have HT:=hide ht
 have HI:=hide (fun u=>Eth.isLoad_any ⟨l.toArray⟩ u)
 clear h hs ht
 go_enter Tryz.func164,Tryz.ntmps164
 go_wp2_with fail
 refine (unhide HN).mono ?_
 rintro e w1 ⟨rfl,h1,g1⟩
 have H1:=hide h1
 have G1:=hide g1
 clear h1 g1
 go_wp2_with fail
 refine (unhide HI _).mono ?_
 rintro e w2 ⟨rfl,rfl⟩
 rw [unhide HT]
 go_wp2_with fail
 refine (must_ok _ _).mono ?_
 rintro _ w3 ⟨rfl,rfl⟩
 go_wp2
 go_ret
 exact ⟨rfl,unhide H1,unhide G1⟩

set_option maxHeartbeats 1000000 in
theorem getLoad_no (B:Nat) (l:List UInt8) (w:World) (h:Rdr w B l) (hs:l.length≤1099511627776) (ht:Eth.okLoad ⟨l.toArray⟩=false) :
  Calls Tryz.prog 164 #[.pointer (some ⟨B,0,none⟩),.func (.func 165) #[] #[],.func (.func 166) #[] #[],.int .i64 7] w fun e w'=>e=.panicked (errP 7)∧w.grownBy w' (some B):=by
 have HN:=hide (remaining_ok B l w h hs)
 have HT:=hide ht
 have HI:=hide (fun u=>Eth.isLoad_any ⟨l.toArray⟩ u)
 clear h hs ht
 go_enter Tryz.func164,Tryz.ntmps164
 go_wp2_with fail
 refine (unhide HN).mono ?_
 rintro e w1 ⟨rfl,h1,g1⟩
 have G1:=hide g1
 clear h1 g1
 go_wp2_with fail
 refine (unhide HI _).mono ?_
 rintro e w2 ⟨rfl,rfl⟩
 rw [unhide HT]
 go_wp2_with fail
 refine (must_no _ _).mono ?_
 rintro _ w3 ⟨rfl,rfl⟩
 exact ⟨rfl,rfl,unhide G1⟩
end Go.Proofs.YtbhbbeebncmaiaaGreatDoor.EtR
namespace Go.Proofs.YtbhbbeebncmaiaaGreatDoor.EtR
open Go.ChangeShapes Go.WideShapes Go.ChangeAt Go.RowKit Bs Rd
set_option linter.unusedVariables false
theorem other {w:World} {B:Nat} {l:List UInt8} (h:Rdr w B l) {a:Addr} (ha:B≠a.block) (v:Value):Rdr (w.setCell a v) B l:=by
 unfold Rdr at *; rw [Below.heap_setCell _ _ _ _ ha]; exact h
theorem grown_new {a w:World} {r:Option Nat} (h:a.grownBy w r) {p:Addr} (hp:a.heap.size≤p.block) (v:Value):a.grownBy (w.setCell p v) r :=
 ⟨h.os,h.tape,h.output,by simpa [World.setCell] using h.size,fun k hk hr=>by rw [Below.heap_setCell _ _ _ _ (by omega)]; exact h.block k hk hr⟩
theorem row_cell {w:World} {g j:Nat} {c:Array Value} {t:TypeId} {v:Value} (h:w.heap[g]?=some (.cells c t (0,0))) (hj:c[j]?=some v):w.cell? ⟨g,j,none⟩=some v:=by
 rw [cell_of_row w g j c t (0,0) h]; exact hj
theorem row_free {w:World} {g:Nat} {c:Array Value} {t:TypeId} (h:w.heap[g]?=some (.cells c t (0,0))):∀ j,w.frozen? ⟨g,j,none⟩=false:=fun j=>by simp [World.frozen?,h]
theorem row_set {w:World} {g:Nat} {c:Array Value} {t:TypeId} (h:w.heap[g]?=some (.cells c t (0,0))) (j:Nat) (v:Value):(w.setCell ⟨g,j,none⟩ v).heap[g]?=some (.cells (c.setIfInBounds j v) t (0,0)):=by
 have hlt:=lt_of_block h
 have h':w.heap[g]=.cells c t (0,0):=by simpa [Array.getElem?_eq_getElem hlt] using h
 show (w.heap.modify g _)[g]?=_
 rw [Array.getElem?_eq_getElem (by simpa using hlt),Array.getElem_modify_self,h']
 rfl

set_option maxHeartbeats 2000000 in
theorem ether_ok (B:Nat) (a b c d e f a' b' c' d' e' f' t t':UInt8) (l:List UInt8) (w:World) (h:Rdr w B (a::b::c::d::e::f::a'::b'::c'::d'::e'::f'::t::t'::l)) (hs:l.length≤1099511627000)
  (ht:Eth.okTy (256*(t.toNat:Int)+(t'.toNat:Int))=true) (hl:Eth.okLoad ⟨l.toArray⟩=true) :
  Calls Tryz.prog 139 #[.pointer (some ⟨B,0,none⟩)] w fun ee w'=>ee=.returned (.agg #[.int .u8 a.toNat,.int .u8 b.toNat,.int .u8 c.toNat,.int .u8 d.toNat,.int .u8 e.toNat,.int .u8 f.toNat,.int .u8 a'.toNat,.int .u8 b'.toNat,.int .u8 c'.toNat,.int .u8 d'.toNat,.int .u8 e'.toNat,.int .u8 f'.toNat,.int .u16 (256*(t.toNat:Int)+(t'.toNat:Int)),.string ⟨l.toArray⟩])∧w.grownBy w' (some B):=by
 have hB:=h.lt
 have hne1:w.heap.size+1≠B:=by omega
 have hne0:w.heap.size≠B:=by omega
 have H0:=hide ((h.alloc (.cells #[.int .u8 0,.int .u8 0,.int .u8 0,.int .u8 0,.int .u8 0,.int .u8 0,.int .u8 0,.int .u8 0,.int .u8 0,.int .u8 0,.int .u8 0,.int .u8 0,.int .u16 0,.string ⟨#[]⟩] 111)).alloc (.cells #[.int .u8 0,.int .u8 0,.int .u8 0,.int .u8 0,.int .u8 0,.int .u8 0,.int .u8 0,.int .u8 0,.int .u8 0,.int .u8 0,.int .u8 0,.int .u8 0,.int .u16 0,.string ⟨#[]⟩] 111))
 have G0:=hide (grown_alloc (grown_alloc (grown_refl w (some B)) (.cells #[.int .u8 0,.int .u8 0,.int .u8 0,.int .u8 0,.int .u8 0,.int .u8 0,.int .u8 0,.int .u8 0,.int .u8 0,.int .u8 0,.int .u8 0,.int .u8 0,.int .u16 0,.string ⟨#[]⟩] 111)) (.cells #[.int .u8 0,.int .u8 0,.int .u8 0,.int .u8 0,.int .u8 0,.int .u8 0,.int .u8 0,.int .u8 0,.int .u8 0,.int .u8 0,.int .u8 0,.int .u8 0,.int .u16 0,.string ⟨#[]⟩] 111))
 have E0:Hid (((w.alloc (.cells #[.int .u8 0,.int .u8 0,.int .u8 0,.int .u8 0,.int .u8 0,.int .u8 0,.int .u8 0,.int .u8 0,.int .u8 0,.int .u8 0,.int .u8 0,.int .u8 0,.int .u16 0,.string ⟨#[]⟩] 111)).alloc (.cells #[.int .u8 0,.int .u8 0,.int .u8 0,.int .u8 0,.int .u8 0,.int .u8 0,.int .u8 0,.int .u8 0,.int .u8 0,.int .u8 0,.int .u8 0,.int .u8 0,.int .u16 0,.string ⟨#[]⟩] 111)).heap[w.heap.size+1]?=some (.cells #[.int .u8 0,.int .u8 0,.int .u8 0,.int .u8 0,.int .u8 0,.int .u8 0,.int .u8 0,.int .u8 0,.int .u8 0,.int .u8 0,.int .u8 0,.int .u8 0,.int .u16 0,.string ⟨#[]⟩] 111 (0,0))):=by
  have q:=heap_alloc_new (w.alloc (.cells #[.int .u8 0,.int .u8 0,.int .u8 0,.int .u8 0,.int .u8 0,.int .u8 0,.int .u8 0,.int .u8 0,.int .u8 0,.int .u8 0,.int .u8 0,.int .u8 0,.int .u16 0,.string ⟨#[]⟩] 111)) (.cells #[.int .u8 0,.int .u8 0,.int .u8 0,.int .u8 0,.int .u8 0,.int .u8 0,.int .u8 0,.int .u8 0,.int .u8 0,.int .u8 0,.int .u8 0,.int .u8 0,.int .u16 0,.string ⟨#[]⟩] 111)
  rw [show (w.alloc (.cells #[.int .u8 0,.int .u8 0,.int .u8 0,.int .u8 0,.int .u8 0,.int .u8 0,.int .u8 0,.int .u8 0,.int .u8 0,.int .u8 0,.int .u8 0,.int .u8 0,.int .u16 0,.string ⟨#[]⟩] 111)).heap.size=w.heap.size+1 by simp] at q
  exact q
 have R0:Hid (((w.alloc (.cells #[.int .u8 0,.int .u8 0,.int .u8 0,.int .u8 0,.int .u8 0,.int .u8 0,.int .u8 0,.int .u8 0,.int .u8 0,.int .u8 0,.int .u8 0,.int .u8 0,.int .u16 0,.string ⟨#[]⟩] 111)).alloc (.cells #[.int .u8 0,.int .u8 0,.int .u8 0,.int .u8 0,.int .u8 0,.int .u8 0,.int .u8 0,.int .u8 0,.int .u8 0,.int .u8 0,.int .u8 0,.int .u8 0,.int .u16 0,.string ⟨#[]⟩] 111)).heap[w.heap.size]?=some (.cells #[.int .u8 0,.int .u8 0,.int .u8 0,.int .u8 0,.int .u8 0,.int .u8 0,.int .u8 0,.int .u8 0,.int .u8 0,.int .u8 0,.int .u8 0,.int .u8 0,.int .u16 0,.string ⟨#[]⟩] 111 (0,0))):=by
  show _=_
  rw [Below.heap_alloc _ _ _ (by simp)]; exact heap_alloc_new w _
 clear h
 have T3:=hide (fun u hu=>getType_ok B t t' l u hu (by simp only [List.length_cons,maxLen]; omega) ht)
 have T4:=hide (fun u hu=>getLoad_ok B l u hu (by omega) hl)
 obtain ⟨x,hx⟩:∃ x,x=256*(t.toNat:Int)+(t'.toNat:Int):=⟨_,rfl⟩
 rw [← hx] at T3 ⊢
 clear ht hl hx
 go_enter Tryz.func139,Tryz.ntmps139
 go_wp2_with fail
 refine (card_ok _ _ _ _ _ _ _ _ _ (unhide H0) (by simp only [List.length_cons,maxLen]; omega)).mono ?_
 rintro ee w1 ⟨rfl,h1,g1⟩
 have he:w1.heap[w.heap.size+1]?=some (.cells #[.int .u8 0,.int .u8 0,.int .u8 0,.int .u8 0,.int .u8 0,.int .u8 0,.int .u8 0,.int .u8 0,.int .u8 0,.int .u8 0,.int .u8 0,.int .u8 0,.int .u16 0,.string ⟨#[]⟩] 111 (0,0)):=(g1.block _ (lt_of_block (unhide E0)) (fun q=>hne1 (by simpa using q))).trans (unhide E0)
 have hr:w1.heap[w.heap.size]?=some (.cells #[.int .u8 0,.int .u8 0,.int .u8 0,.int .u8 0,.int .u8 0,.int .u8 0,.int .u8 0,.int .u8 0,.int .u8 0,.int .u8 0,.int .u8 0,.int .u8 0,.int .u16 0,.string ⟨#[]⟩] 111 (0,0)):=(g1.block _ (lt_of_block (unhide R0)) (fun q=>hne0 (by simpa using q))).trans (unhide R0)
 have cw1_0:w1.cell? ⟨w.heap.size+1,0,none⟩=some (.int .u8 0):=row_cell he rfl
 have cw1_1:w1.cell? ⟨w.heap.size+1,1,none⟩=some (.int .u8 0):=row_cell he rfl
 have cw1_2:w1.cell? ⟨w.heap.size+1,2,none⟩=some (.int .u8 0):=row_cell he rfl
 have cw1_3:w1.cell? ⟨w.heap.size+1,3,none⟩=some (.int .u8 0):=row_cell he rfl
 have cw1_4:w1.cell? ⟨w.heap.size+1,4,none⟩=some (.int .u8 0):=row_cell he rfl
 have cw1_5:w1.cell? ⟨w.heap.size+1,5,none⟩=some (.int .u8 0):=row_cell he rfl
 have fw1:=row_free he
 have E1:Hid (((((((w1.setCell ⟨w.heap.size+1,0,none⟩ (.int .u8 a.toNat)).setCell ⟨w.heap.size+1,1,none⟩ (.int .u8 b.toNat)).setCell ⟨w.heap.size+1,2,none⟩ (.int .u8 c.toNat)).setCell ⟨w.heap.size+1,3,none⟩ (.int .u8 d.toNat)).setCell ⟨w.heap.size+1,4,none⟩ (.int .u8 e.toNat)).setCell ⟨w.heap.size+1,5,none⟩ (.int .u8 f.toNat)).heap[w.heap.size+1]?=some (.cells #[.int .u8 a.toNat,.int .u8 b.toNat,.int .u8 c.toNat,.int .u8 d.toNat,.int .u8 e.toNat,.int .u8 f.toNat,.int .u8 0,.int .u8 0,.int .u8 0,.int .u8 0,.int .u8 0,.int .u8 0,.int .u16 0,.string ⟨#[]⟩] 111 (0,0))):=row_set (row_set (row_set (row_set (row_set (row_set (he) 0 (.int .u8 a.toNat)) 1 (.int .u8 b.toNat)) 2 (.int .u8 c.toNat)) 3 (.int .u8 d.toNat)) 4 (.int .u8 e.toNat)) 5 (.int .u8 f.toNat)
 have H1:Hid (Rdr ((((((w1.setCell ⟨w.heap.size+1,0,none⟩ (.int .u8 a.toNat)).setCell ⟨w.heap.size+1,1,none⟩ (.int .u8 b.toNat)).setCell ⟨w.heap.size+1,2,none⟩ (.int .u8 c.toNat)).setCell ⟨w.heap.size+1,3,none⟩ (.int .u8 d.toNat)).setCell ⟨w.heap.size+1,4,none⟩ (.int .u8 e.toNat)).setCell ⟨w.heap.size+1,5,none⟩ (.int .u8 f.toNat)) B (a'::b'::c'::d'::e'::f'::t::t'::l)):=other (other (other (other (other (other (h1) hne1.symm _) hne1.symm _) hne1.symm _) hne1.symm _) hne1.symm _) hne1.symm _
 have G1:Hid (w.grownBy ((((((w1.setCell ⟨w.heap.size+1,0,none⟩ (.int .u8 a.toNat)).setCell ⟨w.heap.size+1,1,none⟩ (.int .u8 b.toNat)).setCell ⟨w.heap.size+1,2,none⟩ (.int .u8 c.toNat)).setCell ⟨w.heap.size+1,3,none⟩ (.int .u8 d.toNat)).setCell ⟨w.heap.size+1,4,none⟩ (.int .u8 e.toNat)).setCell ⟨w.heap.size+1,5,none⟩ (.int .u8 f.toNat)) (some B)):=grown_new (grown_new (grown_new (grown_new (grown_new (grown_new (grown_trans (unhide G0) g1) (Nat.le_succ _) _) (Nat.le_succ _) _) (Nat.le_succ _) _) (Nat.le_succ _) _) (Nat.le_succ _) _) (Nat.le_succ _) _
 have R1:Hid (((((((w1.setCell ⟨w.heap.size+1,0,none⟩ (.int .u8 a.toNat)).setCell ⟨w.heap.size+1,1,none⟩ (.int .u8 b.toNat)).setCell ⟨w.heap.size+1,2,none⟩ (.int .u8 c.toNat)).setCell ⟨w.heap.size+1,3,none⟩ (.int .u8 d.toNat)).setCell ⟨w.heap.size+1,4,none⟩ (.int .u8 e.toNat)).setCell ⟨w.heap.size+1,5,none⟩ (.int .u8 f.toNat)).heap[w.heap.size]?=some (.cells #[.int .u8 0,.int .u8 0,.int .u8 0,.int .u8 0,.int .u8 0,.int .u8 0,.int .u8 0,.int .u8 0,.int .u8 0,.int .u8 0,.int .u8 0,.int .u8 0,.int .u16 0,.string ⟨#[]⟩] 111 (0,0))):=by
  show _=_
  rw [Below.heap_setCell _ _ _ _ (by simp),Below.heap_setCell _ _ _ _ (by simp),Below.heap_setCell _ _ _ _ (by simp),Below.heap_setCell _ _ _ _ (by simp),Below.heap_setCell _ _ _ _ (by simp),Below.heap_setCell _ _ _ _ (by simp)]; exact hr
 clear he hr h1 g1 H0 G0 E0 R0
 go_wp2_with fail
 refine (card_ok _ _ _ _ _ _ _ _ _ (unhide H1) (by simp only [List.length_cons,maxLen]; omega)).mono ?_
 rintro ee w2 ⟨rfl,h2,g2⟩
 have he:w2.heap[w.heap.size+1]?=some (.cells #[.int .u8 a.toNat,.int .u8 b.toNat,.int .u8 c.toNat,.int .u8 d.toNat,.int .u8 e.toNat,.int .u8 f.toNat,.int .u8 0,.int .u8 0,.int .u8 0,.int .u8 0,.int .u8 0,.int .u8 0,.int .u16 0,.string ⟨#[]⟩] 111 (0,0)):=(g2.block _ (lt_of_block (unhide E1)) (fun q=>hne1 (by simpa using q))).trans (unhide E1)
 have hr:w2.heap[w.heap.size]?=some (.cells #[.int .u8 0,.int .u8 0,.int .u8 0,.int .u8 0,.int .u8 0,.int .u8 0,.int .u8 0,.int .u8 0,.int .u8 0,.int .u8 0,.int .u8 0,.int .u8 0,.int .u16 0,.string ⟨#[]⟩] 111 (0,0)):=(g2.block _ (lt_of_block (unhide R1)) (fun q=>hne0 (by simpa using q))).trans (unhide R1)
 have cw2_6:w2.cell? ⟨w.heap.size+1,6,none⟩=some (.int .u8 0):=row_cell he rfl
 have cw2_7:w2.cell? ⟨w.heap.size+1,7,none⟩=some (.int .u8 0):=row_cell he rfl
 have cw2_8:w2.cell? ⟨w.heap.size+1,8,none⟩=some (.int .u8 0):=row_cell he rfl
 have cw2_9:w2.cell? ⟨w.heap.size+1,9,none⟩=some (.int .u8 0):=row_cell he rfl
 have cw2_10:w2.cell? ⟨w.heap.size+1,10,none⟩=some (.int .u8 0):=row_cell he rfl
 have cw2_11:w2.cell? ⟨w.heap.size+1,11,none⟩=some (.int .u8 0):=row_cell he rfl
 have fw2:=row_free he
 have E2:Hid (((((((w2.setCell ⟨w.heap.size+1,6,none⟩ (.int .u8 a'.toNat)).setCell ⟨w.heap.size+1,7,none⟩ (.int .u8 b'.toNat)).setCell ⟨w.heap.size+1,8,none⟩ (.int .u8 c'.toNat)).setCell ⟨w.heap.size+1,9,none⟩ (.int .u8 d'.toNat)).setCell ⟨w.heap.size+1,10,none⟩ (.int .u8 e'.toNat)).setCell ⟨w.heap.size+1,11,none⟩ (.int .u8 f'.toNat)).heap[w.heap.size+1]?=some (.cells #[.int .u8 a.toNat,.int .u8 b.toNat,.int .u8 c.toNat,.int .u8 d.toNat,.int .u8 e.toNat,.int .u8 f.toNat,.int .u8 a'.toNat,.int .u8 b'.toNat,.int .u8 c'.toNat,.int .u8 d'.toNat,.int .u8 e'.toNat,.int .u8 f'.toNat,.int .u16 0,.string ⟨#[]⟩] 111 (0,0))):=row_set (row_set (row_set (row_set (row_set (row_set (he) 6 (.int .u8 a'.toNat)) 7 (.int .u8 b'.toNat)) 8 (.int .u8 c'.toNat)) 9 (.int .u8 d'.toNat)) 10 (.int .u8 e'.toNat)) 11 (.int .u8 f'.toNat)
 have H2:Hid (Rdr ((((((w2.setCell ⟨w.heap.size+1,6,none⟩ (.int .u8 a'.toNat)).setCell ⟨w.heap.size+1,7,none⟩ (.int .u8 b'.toNat)).setCell ⟨w.heap.size+1,8,none⟩ (.int .u8 c'.toNat)).setCell ⟨w.heap.size+1,9,none⟩ (.int .u8 d'.toNat)).setCell ⟨w.heap.size+1,10,none⟩ (.int .u8 e'.toNat)).setCell ⟨w.heap.size+1,11,none⟩ (.int .u8 f'.toNat)) B (t::t'::l)):=other (other (other (other (other (other (h2) hne1.symm _) hne1.symm _) hne1.symm _) hne1.symm _) hne1.symm _) hne1.symm _
 have G2:Hid (w.grownBy ((((((w2.setCell ⟨w.heap.size+1,6,none⟩ (.int .u8 a'.toNat)).setCell ⟨w.heap.size+1,7,none⟩ (.int .u8 b'.toNat)).setCell ⟨w.heap.size+1,8,none⟩ (.int .u8 c'.toNat)).setCell ⟨w.heap.size+1,9,none⟩ (.int .u8 d'.toNat)).setCell ⟨w.heap.size+1,10,none⟩ (.int .u8 e'.toNat)).setCell ⟨w.heap.size+1,11,none⟩ (.int .u8 f'.toNat)) (some B)):=grown_new (grown_new (grown_new (grown_new (grown_new (grown_new (grown_trans (unhide G1) g2) (Nat.le_succ _) _) (Nat.le_succ _) _) (Nat.le_succ _) _) (Nat.le_succ _) _) (Nat.le_succ _) _) (Nat.le_succ _) _
 have R2:Hid (((((((w2.setCell ⟨w.heap.size+1,6,none⟩ (.int .u8 a'.toNat)).setCell ⟨w.heap.size+1,7,none⟩ (.int .u8 b'.toNat)).setCell ⟨w.heap.size+1,8,none⟩ (.int .u8 c'.toNat)).setCell ⟨w.heap.size+1,9,none⟩ (.int .u8 d'.toNat)).setCell ⟨w.heap.size+1,10,none⟩ (.int .u8 e'.toNat)).setCell ⟨w.heap.size+1,11,none⟩ (.int .u8 f'.toNat)).heap[w.heap.size]?=some (.cells #[.int .u8 0,.int .u8 0,.int .u8 0,.int .u8 0,.int .u8 0,.int .u8 0,.int .u8 0,.int .u8 0,.int .u8 0,.int .u8 0,.int .u8 0,.int .u8 0,.int .u16 0,.string ⟨#[]⟩] 111 (0,0))):=by
  show _=_
  rw [Below.heap_setCell _ _ _ _ (by simp),Below.heap_setCell _ _ _ _ (by simp),Below.heap_setCell _ _ _ _ (by simp),Below.heap_setCell _ _ _ _ (by simp),Below.heap_setCell _ _ _ _ (by simp),Below.heap_setCell _ _ _ _ (by simp)]; exact hr
 clear he hr h2 g2 H1 G1 E1 R1
 go_wp2_with fail
 refine (unhide T3 _ (unhide H2)).mono ?_
 rintro ee w3 ⟨rfl,h3,g3⟩
 have he:w3.heap[w.heap.size+1]?=some (.cells #[.int .u8 a.toNat,.int .u8 b.toNat,.int .u8 c.toNat,.int .u8 d.toNat,.int .u8 e.toNat,.int .u8 f.toNat,.int .u8 a'.toNat,.int .u8 b'.toNat,.int .u8 c'.toNat,.int .u8 d'.toNat,.int .u8 e'.toNat,.int .u8 f'.toNat,.int .u16 0,.string ⟨#[]⟩] 111 (0,0)):=(g3.block _ (lt_of_block (unhide E2)) (fun q=>hne1 (by simpa using q))).trans (unhide E2)
 have hr:w3.heap[w.heap.size]?=some (.cells #[.int .u8 0,.int .u8 0,.int .u8 0,.int .u8 0,.int .u8 0,.int .u8 0,.int .u8 0,.int .u8 0,.int .u8 0,.int .u8 0,.int .u8 0,.int .u8 0,.int .u16 0,.string ⟨#[]⟩] 111 (0,0)):=(g3.block _ (lt_of_block (unhide R2)) (fun q=>hne0 (by simpa using q))).trans (unhide R2)
 have cw3_12:w3.cell? ⟨w.heap.size+1,12,none⟩=some (.int .u16 0):=row_cell he rfl
 have fw3:=row_free he
 have E3:Hid ((w3.setCell ⟨w.heap.size+1,12,none⟩ (.int .u16 x)).heap[w.heap.size+1]?=some (.cells #[.int .u8 a.toNat,.int .u8 b.toNat,.int .u8 c.toNat,.int .u8 d.toNat,.int .u8 e.toNat,.int .u8 f.toNat,.int .u8 a'.toNat,.int .u8 b'.toNat,.int .u8 c'.toNat,.int .u8 d'.toNat,.int .u8 e'.toNat,.int .u8 f'.toNat,.int .u16 x,.string ⟨#[]⟩] 111 (0,0))):=row_set (he) 12 (.int .u16 x)
 have H3:Hid (Rdr (w3.setCell ⟨w.heap.size+1,12,none⟩ (.int .u16 x)) B (l)):=other (h3) hne1.symm _
 have G3:Hid (w.grownBy (w3.setCell ⟨w.heap.size+1,12,none⟩ (.int .u16 x)) (some B)):=grown_new (grown_trans (unhide G2) g3) (Nat.le_succ _) _
 have R3:Hid ((w3.setCell ⟨w.heap.size+1,12,none⟩ (.int .u16 x)).heap[w.heap.size]?=some (.cells #[.int .u8 0,.int .u8 0,.int .u8 0,.int .u8 0,.int .u8 0,.int .u8 0,.int .u8 0,.int .u8 0,.int .u8 0,.int .u8 0,.int .u8 0,.int .u8 0,.int .u16 0,.string ⟨#[]⟩] 111 (0,0))):=by
  show _=_
  rw [Below.heap_setCell _ _ _ _ (by simp)]; exact hr
 clear he hr h3 g3 H2 G2 E2 R2
 go_wp2_with fail
 refine (unhide T4 _ (unhide H3)).mono ?_
 rintro ee w4 ⟨rfl,h4,g4⟩
 have he:w4.heap[w.heap.size+1]?=some (.cells #[.int .u8 a.toNat,.int .u8 b.toNat,.int .u8 c.toNat,.int .u8 d.toNat,.int .u8 e.toNat,.int .u8 f.toNat,.int .u8 a'.toNat,.int .u8 b'.toNat,.int .u8 c'.toNat,.int .u8 d'.toNat,.int .u8 e'.toNat,.int .u8 f'.toNat,.int .u16 x,.string ⟨#[]⟩] 111 (0,0)):=(g4.block _ (lt_of_block (unhide E3)) (fun q=>hne1 (by simpa using q))).trans (unhide E3)
 have hr:w4.heap[w.heap.size]?=some (.cells #[.int .u8 0,.int .u8 0,.int .u8 0,.int .u8 0,.int .u8 0,.int .u8 0,.int .u8 0,.int .u8 0,.int .u8 0,.int .u8 0,.int .u8 0,.int .u8 0,.int .u16 0,.string ⟨#[]⟩] 111 (0,0)):=(g4.block _ (lt_of_block (unhide R3)) (fun q=>hne0 (by simpa using q))).trans (unhide R3)
 have cw4_13:w4.cell? ⟨w.heap.size+1,13,none⟩=some (.string ⟨#[]⟩):=row_cell he rfl
 have fw4:=row_free he
 have c4_0:w4.cell? ⟨w.heap.size+1,0,none⟩=some (.int .u8 a.toNat):=row_cell he rfl
 have c4_1:w4.cell? ⟨w.heap.size+1,1,none⟩=some (.int .u8 b.toNat):=row_cell he rfl
 have c4_2:w4.cell? ⟨w.heap.size+1,2,none⟩=some (.int .u8 c.toNat):=row_cell he rfl
 have c4_3:w4.cell? ⟨w.heap.size+1,3,none⟩=some (.int .u8 d.toNat):=row_cell he rfl
 have c4_4:w4.cell? ⟨w.heap.size+1,4,none⟩=some (.int .u8 e.toNat):=row_cell he rfl
 have c4_5:w4.cell? ⟨w.heap.size+1,5,none⟩=some (.int .u8 f.toNat):=row_cell he rfl
 have c4_6:w4.cell? ⟨w.heap.size+1,6,none⟩=some (.int .u8 a'.toNat):=row_cell he rfl
 have c4_7:w4.cell? ⟨w.heap.size+1,7,none⟩=some (.int .u8 b'.toNat):=row_cell he rfl
 have c4_8:w4.cell? ⟨w.heap.size+1,8,none⟩=some (.int .u8 c'.toNat):=row_cell he rfl
 have c4_9:w4.cell? ⟨w.heap.size+1,9,none⟩=some (.int .u8 d'.toNat):=row_cell he rfl
 have c4_10:w4.cell? ⟨w.heap.size+1,10,none⟩=some (.int .u8 e'.toNat):=row_cell he rfl
 have c4_11:w4.cell? ⟨w.heap.size+1,11,none⟩=some (.int .u8 f'.toNat):=row_cell he rfl
 have c4_12:w4.cell? ⟨w.heap.size+1,12,none⟩=some (.int .u16 x):=row_cell he rfl
 have d4_0:w4.cell? ⟨w.heap.size,0,none⟩=some (.int .u8 0):=row_cell hr rfl
 have d4_1:w4.cell? ⟨w.heap.size,1,none⟩=some (.int .u8 0):=row_cell hr rfl
 have d4_2:w4.cell? ⟨w.heap.size,2,none⟩=some (.int .u8 0):=row_cell hr rfl
 have d4_3:w4.cell? ⟨w.heap.size,3,none⟩=some (.int .u8 0):=row_cell hr rfl
 have d4_4:w4.cell? ⟨w.heap.size,4,none⟩=some (.int .u8 0):=row_cell hr rfl
 have d4_5:w4.cell? ⟨w.heap.size,5,none⟩=some (.int .u8 0):=row_cell hr rfl
 have d4_6:w4.cell? ⟨w.heap.size,6,none⟩=some (.int .u8 0):=row_cell hr rfl
 have d4_7:w4.cell? ⟨w.heap.size,7,none⟩=some (.int .u8 0):=row_cell hr rfl
 have d4_8:w4.cell? ⟨w.heap.size,8,none⟩=some (.int .u8 0):=row_cell hr rfl
 have d4_9:w4.cell? ⟨w.heap.size,9,none⟩=some (.int .u8 0):=row_cell hr rfl
 have d4_10:w4.cell? ⟨w.heap.size,10,none⟩=some (.int .u8 0):=row_cell hr rfl
 have d4_11:w4.cell? ⟨w.heap.size,11,none⟩=some (.int .u8 0):=row_cell hr rfl
 have d4_12:w4.cell? ⟨w.heap.size,12,none⟩=some (.int .u16 0):=row_cell hr rfl
 have d4_13:w4.cell? ⟨w.heap.size,13,none⟩=some (.string ⟨#[]⟩):=row_cell hr rfl
 have k4:=row_free hr
 have E4:Hid ((w4.setCell ⟨w.heap.size+1,13,none⟩ (.string ⟨l.toArray⟩)).heap[w.heap.size+1]?=some (.cells #[.int .u8 a.toNat,.int .u8 b.toNat,.int .u8 c.toNat,.int .u8 d.toNat,.int .u8 e.toNat,.int .u8 f.toNat,.int .u8 a'.toNat,.int .u8 b'.toNat,.int .u8 c'.toNat,.int .u8 d'.toNat,.int .u8 e'.toNat,.int .u8 f'.toNat,.int .u16 x,.string ⟨l.toArray⟩] 111 (0,0))):=row_set (he) 13 (.string ⟨l.toArray⟩)
 have H4:Hid (Rdr (w4.setCell ⟨w.heap.size+1,13,none⟩ (.string ⟨l.toArray⟩)) B ([])):=other (h4) hne1.symm _
 have G4:Hid (w.grownBy (w4.setCell ⟨w.heap.size+1,13,none⟩ (.string ⟨l.toArray⟩)) (some B)):=grown_new (grown_trans (unhide G3) g4) (Nat.le_succ _) _
 have R4:Hid ((w4.setCell ⟨w.heap.size+1,13,none⟩ (.string ⟨l.toArray⟩)).heap[w.heap.size]?=some (.cells #[.int .u8 0,.int .u8 0,.int .u8 0,.int .u8 0,.int .u8 0,.int .u8 0,.int .u8 0,.int .u8 0,.int .u8 0,.int .u8 0,.int .u8 0,.int .u8 0,.int .u16 0,.string ⟨#[]⟩] 111 (0,0))):=by
  show _=_
  rw [Below.heap_setCell _ _ _ _ (by simp)]; exact hr
 clear he hr h4 g4 H3 G3 E3 R3
 go_wp2
 refine bodyPost_ret (v:=.agg #[.int .u8 a.toNat,.int .u8 b.toNat,.int .u8 c.toNat,.int .u8 d.toNat,.int .u8 e.toNat,.int .u8 f.toNat,.int .u8 a'.toNat,.int .u8 b'.toNat,.int .u8 c'.toNat,.int .u8 d'.toNat,.int .u8 e'.toNat,.int .u8 f'.toNat,.int .u16 x,.string ⟨l.toArray⟩]) (by simp [results,Tryz.results139,go_sem,d4_0,d4_1,d4_2,d4_3,d4_4,d4_5,d4_6,d4_7,d4_8,d4_9,d4_10,d4_11,d4_12,d4_13]) rfl ⟨rfl,?_⟩
 iterate 14 refine grown_new ?_ (Nat.le_refl _) _
 exact unhide G4

theorem sixth (l:List UInt8) (h:6≤l.length):∃ a b c d e f r,l=a::b::c::d::e::f::r:=by
 match l,h with
 | a::b::c::d::e::f::r,_=>exact ⟨a,b,c,d,e,f,r,rfl⟩
theorem second (l:List UInt8) (h:2≤l.length):∃ a b r,l=a::b::r:=by
 match l,h with
 | a::b::r,_=>exact ⟨a,b,r,rfl⟩
end Go.Proofs.YtbhbbeebncmaiaaGreatDoor.EtR
namespace Go.Proofs.YtbhbbeebncmaiaaGreatDoor.EtR
open Go.ChangeShapes Go.WideShapes Go.ChangeAt Go.RowKit Bs Rd
set_option linter.unusedVariables false
set_option maxHeartbeats 2000000 in
theorem ether_short1 (B:Nat) (l:List UInt8) (w:World) (h:Rdr w B (l)) (hn:l.length<6) :
  Calls Tryz.prog 139 #[.pointer (some ⟨B,0,none⟩)] w fun ee w'=>ee=.panicked (errP 1)∧w.grownBy w' (some B):=by
 have hB:=h.lt
 have hne1:w.heap.size+1≠B:=by omega
 have hne0:w.heap.size≠B:=by omega
 have H0:=hide ((h.alloc (.cells #[.int .u8 0,.int .u8 0,.int .u8 0,.int .u8 0,.int .u8 0,.int .u8 0,.int .u8 0,.int .u8 0,.int .u8 0,.int .u8 0,.int .u8 0,.int .u8 0,.int .u16 0,.string ⟨#[]⟩] 111)).alloc (.cells #[.int .u8 0,.int .u8 0,.int .u8 0,.int .u8 0,.int .u8 0,.int .u8 0,.int .u8 0,.int .u8 0,.int .u8 0,.int .u8 0,.int .u8 0,.int .u8 0,.int .u16 0,.string ⟨#[]⟩] 111))
 have G0:=hide (grown_alloc (grown_alloc (grown_refl w (some B)) (.cells #[.int .u8 0,.int .u8 0,.int .u8 0,.int .u8 0,.int .u8 0,.int .u8 0,.int .u8 0,.int .u8 0,.int .u8 0,.int .u8 0,.int .u8 0,.int .u8 0,.int .u16 0,.string ⟨#[]⟩] 111)) (.cells #[.int .u8 0,.int .u8 0,.int .u8 0,.int .u8 0,.int .u8 0,.int .u8 0,.int .u8 0,.int .u8 0,.int .u8 0,.int .u8 0,.int .u8 0,.int .u8 0,.int .u16 0,.string ⟨#[]⟩] 111))
 have E0:Hid (((w.alloc (.cells #[.int .u8 0,.int .u8 0,.int .u8 0,.int .u8 0,.int .u8 0,.int .u8 0,.int .u8 0,.int .u8 0,.int .u8 0,.int .u8 0,.int .u8 0,.int .u8 0,.int .u16 0,.string ⟨#[]⟩] 111)).alloc (.cells #[.int .u8 0,.int .u8 0,.int .u8 0,.int .u8 0,.int .u8 0,.int .u8 0,.int .u8 0,.int .u8 0,.int .u8 0,.int .u8 0,.int .u8 0,.int .u8 0,.int .u16 0,.string ⟨#[]⟩] 111)).heap[w.heap.size+1]?=some (.cells #[.int .u8 0,.int .u8 0,.int .u8 0,.int .u8 0,.int .u8 0,.int .u8 0,.int .u8 0,.int .u8 0,.int .u8 0,.int .u8 0,.int .u8 0,.int .u8 0,.int .u16 0,.string ⟨#[]⟩] 111 (0,0))):=by
  have q:=heap_alloc_new (w.alloc (.cells #[.int .u8 0,.int .u8 0,.int .u8 0,.int .u8 0,.int .u8 0,.int .u8 0,.int .u8 0,.int .u8 0,.int .u8 0,.int .u8 0,.int .u8 0,.int .u8 0,.int .u16 0,.string ⟨#[]⟩] 111)) (.cells #[.int .u8 0,.int .u8 0,.int .u8 0,.int .u8 0,.int .u8 0,.int .u8 0,.int .u8 0,.int .u8 0,.int .u8 0,.int .u8 0,.int .u8 0,.int .u8 0,.int .u16 0,.string ⟨#[]⟩] 111)
  rw [show (w.alloc (.cells #[.int .u8 0,.int .u8 0,.int .u8 0,.int .u8 0,.int .u8 0,.int .u8 0,.int .u8 0,.int .u8 0,.int .u8 0,.int .u8 0,.int .u8 0,.int .u8 0,.int .u16 0,.string ⟨#[]⟩] 111)).heap.size=w.heap.size+1 by simp] at q
  exact q
 have R0:Hid (((w.alloc (.cells #[.int .u8 0,.int .u8 0,.int .u8 0,.int .u8 0,.int .u8 0,.int .u8 0,.int .u8 0,.int .u8 0,.int .u8 0,.int .u8 0,.int .u8 0,.int .u8 0,.int .u16 0,.string ⟨#[]⟩] 111)).alloc (.cells #[.int .u8 0,.int .u8 0,.int .u8 0,.int .u8 0,.int .u8 0,.int .u8 0,.int .u8 0,.int .u8 0,.int .u8 0,.int .u8 0,.int .u8 0,.int .u8 0,.int .u16 0,.string ⟨#[]⟩] 111)).heap[w.heap.size]?=some (.cells #[.int .u8 0,.int .u8 0,.int .u8 0,.int .u8 0,.int .u8 0,.int .u8 0,.int .u8 0,.int .u8 0,.int .u8 0,.int .u8 0,.int .u8 0,.int .u8 0,.int .u16 0,.string ⟨#[]⟩] 111 (0,0))):=by
  show _=_
  rw [Below.heap_alloc _ _ _ (by simp)]; exact heap_alloc_new w _
 clear h
 go_enter Tryz.func139,Tryz.ntmps139
 go_wp2_with fail
 refine (card_no _ _ _ (unhide H0) hn).mono ?_
 rintro ee wz ⟨rfl,gz⟩
 exact ⟨rfl,rfl,grown_trans (unhide G0) gz⟩

set_option maxHeartbeats 2000000 in
theorem ether_short2 (B:Nat) (a b c d e f:UInt8) (l:List UInt8) (w:World) (h:Rdr w B (a::b::c::d::e::f::l)) (hn:l.length<6) :
  Calls Tryz.prog 139 #[.pointer (some ⟨B,0,none⟩)] w fun ee w'=>ee=.panicked (errP 1)∧w.grownBy w' (some B):=by
 have hB:=h.lt
 have hne1:w.heap.size+1≠B:=by omega
 have hne0:w.heap.size≠B:=by omega
 have H0:=hide ((h.alloc (.cells #[.int .u8 0,.int .u8 0,.int .u8 0,.int .u8 0,.int .u8 0,.int .u8 0,.int .u8 0,.int .u8 0,.int .u8 0,.int .u8 0,.int .u8 0,.int .u8 0,.int .u16 0,.string ⟨#[]⟩] 111)).alloc (.cells #[.int .u8 0,.int .u8 0,.int .u8 0,.int .u8 0,.int .u8 0,.int .u8 0,.int .u8 0,.int .u8 0,.int .u8 0,.int .u8 0,.int .u8 0,.int .u8 0,.int .u16 0,.string ⟨#[]⟩] 111))
 have G0:=hide (grown_alloc (grown_alloc (grown_refl w (some B)) (.cells #[.int .u8 0,.int .u8 0,.int .u8 0,.int .u8 0,.int .u8 0,.int .u8 0,.int .u8 0,.int .u8 0,.int .u8 0,.int .u8 0,.int .u8 0,.int .u8 0,.int .u16 0,.string ⟨#[]⟩] 111)) (.cells #[.int .u8 0,.int .u8 0,.int .u8 0,.int .u8 0,.int .u8 0,.int .u8 0,.int .u8 0,.int .u8 0,.int .u8 0,.int .u8 0,.int .u8 0,.int .u8 0,.int .u16 0,.string ⟨#[]⟩] 111))
 have E0:Hid (((w.alloc (.cells #[.int .u8 0,.int .u8 0,.int .u8 0,.int .u8 0,.int .u8 0,.int .u8 0,.int .u8 0,.int .u8 0,.int .u8 0,.int .u8 0,.int .u8 0,.int .u8 0,.int .u16 0,.string ⟨#[]⟩] 111)).alloc (.cells #[.int .u8 0,.int .u8 0,.int .u8 0,.int .u8 0,.int .u8 0,.int .u8 0,.int .u8 0,.int .u8 0,.int .u8 0,.int .u8 0,.int .u8 0,.int .u8 0,.int .u16 0,.string ⟨#[]⟩] 111)).heap[w.heap.size+1]?=some (.cells #[.int .u8 0,.int .u8 0,.int .u8 0,.int .u8 0,.int .u8 0,.int .u8 0,.int .u8 0,.int .u8 0,.int .u8 0,.int .u8 0,.int .u8 0,.int .u8 0,.int .u16 0,.string ⟨#[]⟩] 111 (0,0))):=by
  have q:=heap_alloc_new (w.alloc (.cells #[.int .u8 0,.int .u8 0,.int .u8 0,.int .u8 0,.int .u8 0,.int .u8 0,.int .u8 0,.int .u8 0,.int .u8 0,.int .u8 0,.int .u8 0,.int .u8 0,.int .u16 0,.string ⟨#[]⟩] 111)) (.cells #[.int .u8 0,.int .u8 0,.int .u8 0,.int .u8 0,.int .u8 0,.int .u8 0,.int .u8 0,.int .u8 0,.int .u8 0,.int .u8 0,.int .u8 0,.int .u8 0,.int .u16 0,.string ⟨#[]⟩] 111)
  rw [show (w.alloc (.cells #[.int .u8 0,.int .u8 0,.int .u8 0,.int .u8 0,.int .u8 0,.int .u8 0,.int .u8 0,.int .u8 0,.int .u8 0,.int .u8 0,.int .u8 0,.int .u8 0,.int .u16 0,.string ⟨#[]⟩] 111)).heap.size=w.heap.size+1 by simp] at q
  exact q
 have R0:Hid (((w.alloc (.cells #[.int .u8 0,.int .u8 0,.int .u8 0,.int .u8 0,.int .u8 0,.int .u8 0,.int .u8 0,.int .u8 0,.int .u8 0,.int .u8 0,.int .u8 0,.int .u8 0,.int .u16 0,.string ⟨#[]⟩] 111)).alloc (.cells #[.int .u8 0,.int .u8 0,.int .u8 0,.int .u8 0,.int .u8 0,.int .u8 0,.int .u8 0,.int .u8 0,.int .u8 0,.int .u8 0,.int .u8 0,.int .u8 0,.int .u16 0,.string ⟨#[]⟩] 111)).heap[w.heap.size]?=some (.cells #[.int .u8 0,.int .u8 0,.int .u8 0,.int .u8 0,.int .u8 0,.int .u8 0,.int .u8 0,.int .u8 0,.int .u8 0,.int .u8 0,.int .u8 0,.int .u8 0,.int .u16 0,.string ⟨#[]⟩] 111 (0,0))):=by
  show _=_
  rw [Below.heap_alloc _ _ _ (by simp)]; exact heap_alloc_new w _
 clear h
 go_enter Tryz.func139,Tryz.ntmps139
 go_wp2_with fail
 refine (card_ok _ _ _ _ _ _ _ _ _ (unhide H0) (by simp only [List.length_cons,maxLen]; omega)).mono ?_
 rintro ee w1 ⟨rfl,h1,g1⟩
 have he:w1.heap[w.heap.size+1]?=some (.cells #[.int .u8 0,.int .u8 0,.int .u8 0,.int .u8 0,.int .u8 0,.int .u8 0,.int .u8 0,.int .u8 0,.int .u8 0,.int .u8 0,.int .u8 0,.int .u8 0,.int .u16 0,.string ⟨#[]⟩] 111 (0,0)):=(g1.block _ (lt_of_block (unhide E0)) (fun q=>hne1 (by simpa using q))).trans (unhide E0)
 have hr:w1.heap[w.heap.size]?=some (.cells #[.int .u8 0,.int .u8 0,.int .u8 0,.int .u8 0,.int .u8 0,.int .u8 0,.int .u8 0,.int .u8 0,.int .u8 0,.int .u8 0,.int .u8 0,.int .u8 0,.int .u16 0,.string ⟨#[]⟩] 111 (0,0)):=(g1.block _ (lt_of_block (unhide R0)) (fun q=>hne0 (by simpa using q))).trans (unhide R0)
 have cw1_0:w1.cell? ⟨w.heap.size+1,0,none⟩=some (.int .u8 0):=row_cell he rfl
 have cw1_1:w1.cell? ⟨w.heap.size+1,1,none⟩=some (.int .u8 0):=row_cell he rfl
 have cw1_2:w1.cell? ⟨w.heap.size+1,2,none⟩=some (.int .u8 0):=row_cell he rfl
 have cw1_3:w1.cell? ⟨w.heap.size+1,3,none⟩=some (.int .u8 0):=row_cell he rfl
 have cw1_4:w1.cell? ⟨w.heap.size+1,4,none⟩=some (.int .u8 0):=row_cell he rfl
 have cw1_5:w1.cell? ⟨w.heap.size+1,5,none⟩=some (.int .u8 0):=row_cell he rfl
 have fw1:=row_free he
 have E1:Hid (((((((w1.setCell ⟨w.heap.size+1,0,none⟩ (.int .u8 a.toNat)).setCell ⟨w.heap.size+1,1,none⟩ (.int .u8 b.toNat)).setCell ⟨w.heap.size+1,2,none⟩ (.int .u8 c.toNat)).setCell ⟨w.heap.size+1,3,none⟩ (.int .u8 d.toNat)).setCell ⟨w.heap.size+1,4,none⟩ (.int .u8 e.toNat)).setCell ⟨w.heap.size+1,5,none⟩ (.int .u8 f.toNat)).heap[w.heap.size+1]?=some (.cells #[.int .u8 a.toNat,.int .u8 b.toNat,.int .u8 c.toNat,.int .u8 d.toNat,.int .u8 e.toNat,.int .u8 f.toNat,.int .u8 0,.int .u8 0,.int .u8 0,.int .u8 0,.int .u8 0,.int .u8 0,.int .u16 0,.string ⟨#[]⟩] 111 (0,0))):=row_set (row_set (row_set (row_set (row_set (row_set (he) 0 (.int .u8 a.toNat)) 1 (.int .u8 b.toNat)) 2 (.int .u8 c.toNat)) 3 (.int .u8 d.toNat)) 4 (.int .u8 e.toNat)) 5 (.int .u8 f.toNat)
 have H1:Hid (Rdr ((((((w1.setCell ⟨w.heap.size+1,0,none⟩ (.int .u8 a.toNat)).setCell ⟨w.heap.size+1,1,none⟩ (.int .u8 b.toNat)).setCell ⟨w.heap.size+1,2,none⟩ (.int .u8 c.toNat)).setCell ⟨w.heap.size+1,3,none⟩ (.int .u8 d.toNat)).setCell ⟨w.heap.size+1,4,none⟩ (.int .u8 e.toNat)).setCell ⟨w.heap.size+1,5,none⟩ (.int .u8 f.toNat)) B (l)):=other (other (other (other (other (other (h1) hne1.symm _) hne1.symm _) hne1.symm _) hne1.symm _) hne1.symm _) hne1.symm _
 have G1:Hid (w.grownBy ((((((w1.setCell ⟨w.heap.size+1,0,none⟩ (.int .u8 a.toNat)).setCell ⟨w.heap.size+1,1,none⟩ (.int .u8 b.toNat)).setCell ⟨w.heap.size+1,2,none⟩ (.int .u8 c.toNat)).setCell ⟨w.heap.size+1,3,none⟩ (.int .u8 d.toNat)).setCell ⟨w.heap.size+1,4,none⟩ (.int .u8 e.toNat)).setCell ⟨w.heap.size+1,5,none⟩ (.int .u8 f.toNat)) (some B)):=grown_new (grown_new (grown_new (grown_new (grown_new (grown_new (grown_trans (unhide G0) g1) (Nat.le_succ _) _) (Nat.le_succ _) _) (Nat.le_succ _) _) (Nat.le_succ _) _) (Nat.le_succ _) _) (Nat.le_succ _) _
 have R1:Hid (((((((w1.setCell ⟨w.heap.size+1,0,none⟩ (.int .u8 a.toNat)).setCell ⟨w.heap.size+1,1,none⟩ (.int .u8 b.toNat)).setCell ⟨w.heap.size+1,2,none⟩ (.int .u8 c.toNat)).setCell ⟨w.heap.size+1,3,none⟩ (.int .u8 d.toNat)).setCell ⟨w.heap.size+1,4,none⟩ (.int .u8 e.toNat)).setCell ⟨w.heap.size+1,5,none⟩ (.int .u8 f.toNat)).heap[w.heap.size]?=some (.cells #[.int .u8 0,.int .u8 0,.int .u8 0,.int .u8 0,.int .u8 0,.int .u8 0,.int .u8 0,.int .u8 0,.int .u8 0,.int .u8 0,.int .u8 0,.int .u8 0,.int .u16 0,.string ⟨#[]⟩] 111 (0,0))):=by
  show _=_
  rw [Below.heap_setCell _ _ _ _ (by simp),Below.heap_setCell _ _ _ _ (by simp),Below.heap_setCell _ _ _ _ (by simp),Below.heap_setCell _ _ _ _ (by simp),Below.heap_setCell _ _ _ _ (by simp),Below.heap_setCell _ _ _ _ (by simp)]; exact hr
 clear he hr h1 g1 H0 G0 E0 R0
 go_wp2_with fail
 refine (card_no _ _ _ (unhide H1) hn).mono ?_
 rintro ee wz ⟨rfl,gz⟩
 exact ⟨rfl,rfl,grown_trans (unhide G1) gz⟩

set_option maxHeartbeats 2000000 in
theorem ether_short3 (B:Nat) (a b c d e f a' b' c' d' e' f':UInt8) (l:List UInt8) (w:World) (h:Rdr w B (a::b::c::d::e::f::a'::b'::c'::d'::e'::f'::l)) (hn:l.length<2) :
  Calls Tryz.prog 139 #[.pointer (some ⟨B,0,none⟩)] w fun ee w'=>ee=.panicked (errP 1)∧w.grownBy w' (some B):=by
 have hB:=h.lt
 have hne1:w.heap.size+1≠B:=by omega
 have hne0:w.heap.size≠B:=by omega
 have H0:=hide ((h.alloc (.cells #[.int .u8 0,.int .u8 0,.int .u8 0,.int .u8 0,.int .u8 0,.int .u8 0,.int .u8 0,.int .u8 0,.int .u8 0,.int .u8 0,.int .u8 0,.int .u8 0,.int .u16 0,.string ⟨#[]⟩] 111)).alloc (.cells #[.int .u8 0,.int .u8 0,.int .u8 0,.int .u8 0,.int .u8 0,.int .u8 0,.int .u8 0,.int .u8 0,.int .u8 0,.int .u8 0,.int .u8 0,.int .u8 0,.int .u16 0,.string ⟨#[]⟩] 111))
 have G0:=hide (grown_alloc (grown_alloc (grown_refl w (some B)) (.cells #[.int .u8 0,.int .u8 0,.int .u8 0,.int .u8 0,.int .u8 0,.int .u8 0,.int .u8 0,.int .u8 0,.int .u8 0,.int .u8 0,.int .u8 0,.int .u8 0,.int .u16 0,.string ⟨#[]⟩] 111)) (.cells #[.int .u8 0,.int .u8 0,.int .u8 0,.int .u8 0,.int .u8 0,.int .u8 0,.int .u8 0,.int .u8 0,.int .u8 0,.int .u8 0,.int .u8 0,.int .u8 0,.int .u16 0,.string ⟨#[]⟩] 111))
 have E0:Hid (((w.alloc (.cells #[.int .u8 0,.int .u8 0,.int .u8 0,.int .u8 0,.int .u8 0,.int .u8 0,.int .u8 0,.int .u8 0,.int .u8 0,.int .u8 0,.int .u8 0,.int .u8 0,.int .u16 0,.string ⟨#[]⟩] 111)).alloc (.cells #[.int .u8 0,.int .u8 0,.int .u8 0,.int .u8 0,.int .u8 0,.int .u8 0,.int .u8 0,.int .u8 0,.int .u8 0,.int .u8 0,.int .u8 0,.int .u8 0,.int .u16 0,.string ⟨#[]⟩] 111)).heap[w.heap.size+1]?=some (.cells #[.int .u8 0,.int .u8 0,.int .u8 0,.int .u8 0,.int .u8 0,.int .u8 0,.int .u8 0,.int .u8 0,.int .u8 0,.int .u8 0,.int .u8 0,.int .u8 0,.int .u16 0,.string ⟨#[]⟩] 111 (0,0))):=by
  have q:=heap_alloc_new (w.alloc (.cells #[.int .u8 0,.int .u8 0,.int .u8 0,.int .u8 0,.int .u8 0,.int .u8 0,.int .u8 0,.int .u8 0,.int .u8 0,.int .u8 0,.int .u8 0,.int .u8 0,.int .u16 0,.string ⟨#[]⟩] 111)) (.cells #[.int .u8 0,.int .u8 0,.int .u8 0,.int .u8 0,.int .u8 0,.int .u8 0,.int .u8 0,.int .u8 0,.int .u8 0,.int .u8 0,.int .u8 0,.int .u8 0,.int .u16 0,.string ⟨#[]⟩] 111)
  rw [show (w.alloc (.cells #[.int .u8 0,.int .u8 0,.int .u8 0,.int .u8 0,.int .u8 0,.int .u8 0,.int .u8 0,.int .u8 0,.int .u8 0,.int .u8 0,.int .u8 0,.int .u8 0,.int .u16 0,.string ⟨#[]⟩] 111)).heap.size=w.heap.size+1 by simp] at q
  exact q
 have R0:Hid (((w.alloc (.cells #[.int .u8 0,.int .u8 0,.int .u8 0,.int .u8 0,.int .u8 0,.int .u8 0,.int .u8 0,.int .u8 0,.int .u8 0,.int .u8 0,.int .u8 0,.int .u8 0,.int .u16 0,.string ⟨#[]⟩] 111)).alloc (.cells #[.int .u8 0,.int .u8 0,.int .u8 0,.int .u8 0,.int .u8 0,.int .u8 0,.int .u8 0,.int .u8 0,.int .u8 0,.int .u8 0,.int .u8 0,.int .u8 0,.int .u16 0,.string ⟨#[]⟩] 111)).heap[w.heap.size]?=some (.cells #[.int .u8 0,.int .u8 0,.int .u8 0,.int .u8 0,.int .u8 0,.int .u8 0,.int .u8 0,.int .u8 0,.int .u8 0,.int .u8 0,.int .u8 0,.int .u8 0,.int .u16 0,.string ⟨#[]⟩] 111 (0,0))):=by
  show _=_
  rw [Below.heap_alloc _ _ _ (by simp)]; exact heap_alloc_new w _
 clear h
 go_enter Tryz.func139,Tryz.ntmps139
 go_wp2_with fail
 refine (card_ok _ _ _ _ _ _ _ _ _ (unhide H0) (by simp only [List.length_cons,maxLen]; omega)).mono ?_
 rintro ee w1 ⟨rfl,h1,g1⟩
 have he:w1.heap[w.heap.size+1]?=some (.cells #[.int .u8 0,.int .u8 0,.int .u8 0,.int .u8 0,.int .u8 0,.int .u8 0,.int .u8 0,.int .u8 0,.int .u8 0,.int .u8 0,.int .u8 0,.int .u8 0,.int .u16 0,.string ⟨#[]⟩] 111 (0,0)):=(g1.block _ (lt_of_block (unhide E0)) (fun q=>hne1 (by simpa using q))).trans (unhide E0)
 have hr:w1.heap[w.heap.size]?=some (.cells #[.int .u8 0,.int .u8 0,.int .u8 0,.int .u8 0,.int .u8 0,.int .u8 0,.int .u8 0,.int .u8 0,.int .u8 0,.int .u8 0,.int .u8 0,.int .u8 0,.int .u16 0,.string ⟨#[]⟩] 111 (0,0)):=(g1.block _ (lt_of_block (unhide R0)) (fun q=>hne0 (by simpa using q))).trans (unhide R0)
 have cw1_0:w1.cell? ⟨w.heap.size+1,0,none⟩=some (.int .u8 0):=row_cell he rfl
 have cw1_1:w1.cell? ⟨w.heap.size+1,1,none⟩=some (.int .u8 0):=row_cell he rfl
 have cw1_2:w1.cell? ⟨w.heap.size+1,2,none⟩=some (.int .u8 0):=row_cell he rfl
 have cw1_3:w1.cell? ⟨w.heap.size+1,3,none⟩=some (.int .u8 0):=row_cell he rfl
 have cw1_4:w1.cell? ⟨w.heap.size+1,4,none⟩=some (.int .u8 0):=row_cell he rfl
 have cw1_5:w1.cell? ⟨w.heap.size+1,5,none⟩=some (.int .u8 0):=row_cell he rfl
 have fw1:=row_free he
 have E1:Hid (((((((w1.setCell ⟨w.heap.size+1,0,none⟩ (.int .u8 a.toNat)).setCell ⟨w.heap.size+1,1,none⟩ (.int .u8 b.toNat)).setCell ⟨w.heap.size+1,2,none⟩ (.int .u8 c.toNat)).setCell ⟨w.heap.size+1,3,none⟩ (.int .u8 d.toNat)).setCell ⟨w.heap.size+1,4,none⟩ (.int .u8 e.toNat)).setCell ⟨w.heap.size+1,5,none⟩ (.int .u8 f.toNat)).heap[w.heap.size+1]?=some (.cells #[.int .u8 a.toNat,.int .u8 b.toNat,.int .u8 c.toNat,.int .u8 d.toNat,.int .u8 e.toNat,.int .u8 f.toNat,.int .u8 0,.int .u8 0,.int .u8 0,.int .u8 0,.int .u8 0,.int .u8 0,.int .u16 0,.string ⟨#[]⟩] 111 (0,0))):=row_set (row_set (row_set (row_set (row_set (row_set (he) 0 (.int .u8 a.toNat)) 1 (.int .u8 b.toNat)) 2 (.int .u8 c.toNat)) 3 (.int .u8 d.toNat)) 4 (.int .u8 e.toNat)) 5 (.int .u8 f.toNat)
 have H1:Hid (Rdr ((((((w1.setCell ⟨w.heap.size+1,0,none⟩ (.int .u8 a.toNat)).setCell ⟨w.heap.size+1,1,none⟩ (.int .u8 b.toNat)).setCell ⟨w.heap.size+1,2,none⟩ (.int .u8 c.toNat)).setCell ⟨w.heap.size+1,3,none⟩ (.int .u8 d.toNat)).setCell ⟨w.heap.size+1,4,none⟩ (.int .u8 e.toNat)).setCell ⟨w.heap.size+1,5,none⟩ (.int .u8 f.toNat)) B (a'::b'::c'::d'::e'::f'::l)):=other (other (other (other (other (other (h1) hne1.symm _) hne1.symm _) hne1.symm _) hne1.symm _) hne1.symm _) hne1.symm _
 have G1:Hid (w.grownBy ((((((w1.setCell ⟨w.heap.size+1,0,none⟩ (.int .u8 a.toNat)).setCell ⟨w.heap.size+1,1,none⟩ (.int .u8 b.toNat)).setCell ⟨w.heap.size+1,2,none⟩ (.int .u8 c.toNat)).setCell ⟨w.heap.size+1,3,none⟩ (.int .u8 d.toNat)).setCell ⟨w.heap.size+1,4,none⟩ (.int .u8 e.toNat)).setCell ⟨w.heap.size+1,5,none⟩ (.int .u8 f.toNat)) (some B)):=grown_new (grown_new (grown_new (grown_new (grown_new (grown_new (grown_trans (unhide G0) g1) (Nat.le_succ _) _) (Nat.le_succ _) _) (Nat.le_succ _) _) (Nat.le_succ _) _) (Nat.le_succ _) _) (Nat.le_succ _) _
 have R1:Hid (((((((w1.setCell ⟨w.heap.size+1,0,none⟩ (.int .u8 a.toNat)).setCell ⟨w.heap.size+1,1,none⟩ (.int .u8 b.toNat)).setCell ⟨w.heap.size+1,2,none⟩ (.int .u8 c.toNat)).setCell ⟨w.heap.size+1,3,none⟩ (.int .u8 d.toNat)).setCell ⟨w.heap.size+1,4,none⟩ (.int .u8 e.toNat)).setCell ⟨w.heap.size+1,5,none⟩ (.int .u8 f.toNat)).heap[w.heap.size]?=some (.cells #[.int .u8 0,.int .u8 0,.int .u8 0,.int .u8 0,.int .u8 0,.int .u8 0,.int .u8 0,.int .u8 0,.int .u8 0,.int .u8 0,.int .u8 0,.int .u8 0,.int .u16 0,.string ⟨#[]⟩] 111 (0,0))):=by
  show _=_
  rw [Below.heap_setCell _ _ _ _ (by simp),Below.heap_setCell _ _ _ _ (by simp),Below.heap_setCell _ _ _ _ (by simp),Below.heap_setCell _ _ _ _ (by simp),Below.heap_setCell _ _ _ _ (by simp),Below.heap_setCell _ _ _ _ (by simp)]; exact hr
 clear he hr h1 g1 H0 G0 E0 R0
 go_wp2_with fail
 refine (card_ok _ _ _ _ _ _ _ _ _ (unhide H1) (by simp only [List.length_cons,maxLen]; omega)).mono ?_
 rintro ee w2 ⟨rfl,h2,g2⟩
 have he:w2.heap[w.heap.size+1]?=some (.cells #[.int .u8 a.toNat,.int .u8 b.toNat,.int .u8 c.toNat,.int .u8 d.toNat,.int .u8 e.toNat,.int .u8 f.toNat,.int .u8 0,.int .u8 0,.int .u8 0,.int .u8 0,.int .u8 0,.int .u8 0,.int .u16 0,.string ⟨#[]⟩] 111 (0,0)):=(g2.block _ (lt_of_block (unhide E1)) (fun q=>hne1 (by simpa using q))).trans (unhide E1)
 have hr:w2.heap[w.heap.size]?=some (.cells #[.int .u8 0,.int .u8 0,.int .u8 0,.int .u8 0,.int .u8 0,.int .u8 0,.int .u8 0,.int .u8 0,.int .u8 0,.int .u8 0,.int .u8 0,.int .u8 0,.int .u16 0,.string ⟨#[]⟩] 111 (0,0)):=(g2.block _ (lt_of_block (unhide R1)) (fun q=>hne0 (by simpa using q))).trans (unhide R1)
 have cw2_6:w2.cell? ⟨w.heap.size+1,6,none⟩=some (.int .u8 0):=row_cell he rfl
 have cw2_7:w2.cell? ⟨w.heap.size+1,7,none⟩=some (.int .u8 0):=row_cell he rfl
 have cw2_8:w2.cell? ⟨w.heap.size+1,8,none⟩=some (.int .u8 0):=row_cell he rfl
 have cw2_9:w2.cell? ⟨w.heap.size+1,9,none⟩=some (.int .u8 0):=row_cell he rfl
 have cw2_10:w2.cell? ⟨w.heap.size+1,10,none⟩=some (.int .u8 0):=row_cell he rfl
 have cw2_11:w2.cell? ⟨w.heap.size+1,11,none⟩=some (.int .u8 0):=row_cell he rfl
 have fw2:=row_free he
 have E2:Hid (((((((w2.setCell ⟨w.heap.size+1,6,none⟩ (.int .u8 a'.toNat)).setCell ⟨w.heap.size+1,7,none⟩ (.int .u8 b'.toNat)).setCell ⟨w.heap.size+1,8,none⟩ (.int .u8 c'.toNat)).setCell ⟨w.heap.size+1,9,none⟩ (.int .u8 d'.toNat)).setCell ⟨w.heap.size+1,10,none⟩ (.int .u8 e'.toNat)).setCell ⟨w.heap.size+1,11,none⟩ (.int .u8 f'.toNat)).heap[w.heap.size+1]?=some (.cells #[.int .u8 a.toNat,.int .u8 b.toNat,.int .u8 c.toNat,.int .u8 d.toNat,.int .u8 e.toNat,.int .u8 f.toNat,.int .u8 a'.toNat,.int .u8 b'.toNat,.int .u8 c'.toNat,.int .u8 d'.toNat,.int .u8 e'.toNat,.int .u8 f'.toNat,.int .u16 0,.string ⟨#[]⟩] 111 (0,0))):=row_set (row_set (row_set (row_set (row_set (row_set (he) 6 (.int .u8 a'.toNat)) 7 (.int .u8 b'.toNat)) 8 (.int .u8 c'.toNat)) 9 (.int .u8 d'.toNat)) 10 (.int .u8 e'.toNat)) 11 (.int .u8 f'.toNat)
 have H2:Hid (Rdr ((((((w2.setCell ⟨w.heap.size+1,6,none⟩ (.int .u8 a'.toNat)).setCell ⟨w.heap.size+1,7,none⟩ (.int .u8 b'.toNat)).setCell ⟨w.heap.size+1,8,none⟩ (.int .u8 c'.toNat)).setCell ⟨w.heap.size+1,9,none⟩ (.int .u8 d'.toNat)).setCell ⟨w.heap.size+1,10,none⟩ (.int .u8 e'.toNat)).setCell ⟨w.heap.size+1,11,none⟩ (.int .u8 f'.toNat)) B (l)):=other (other (other (other (other (other (h2) hne1.symm _) hne1.symm _) hne1.symm _) hne1.symm _) hne1.symm _) hne1.symm _
 have G2:Hid (w.grownBy ((((((w2.setCell ⟨w.heap.size+1,6,none⟩ (.int .u8 a'.toNat)).setCell ⟨w.heap.size+1,7,none⟩ (.int .u8 b'.toNat)).setCell ⟨w.heap.size+1,8,none⟩ (.int .u8 c'.toNat)).setCell ⟨w.heap.size+1,9,none⟩ (.int .u8 d'.toNat)).setCell ⟨w.heap.size+1,10,none⟩ (.int .u8 e'.toNat)).setCell ⟨w.heap.size+1,11,none⟩ (.int .u8 f'.toNat)) (some B)):=grown_new (grown_new (grown_new (grown_new (grown_new (grown_new (grown_trans (unhide G1) g2) (Nat.le_succ _) _) (Nat.le_succ _) _) (Nat.le_succ _) _) (Nat.le_succ _) _) (Nat.le_succ _) _) (Nat.le_succ _) _
 have R2:Hid (((((((w2.setCell ⟨w.heap.size+1,6,none⟩ (.int .u8 a'.toNat)).setCell ⟨w.heap.size+1,7,none⟩ (.int .u8 b'.toNat)).setCell ⟨w.heap.size+1,8,none⟩ (.int .u8 c'.toNat)).setCell ⟨w.heap.size+1,9,none⟩ (.int .u8 d'.toNat)).setCell ⟨w.heap.size+1,10,none⟩ (.int .u8 e'.toNat)).setCell ⟨w.heap.size+1,11,none⟩ (.int .u8 f'.toNat)).heap[w.heap.size]?=some (.cells #[.int .u8 0,.int .u8 0,.int .u8 0,.int .u8 0,.int .u8 0,.int .u8 0,.int .u8 0,.int .u8 0,.int .u8 0,.int .u8 0,.int .u8 0,.int .u8 0,.int .u16 0,.string ⟨#[]⟩] 111 (0,0))):=by
  show _=_
  rw [Below.heap_setCell _ _ _ _ (by simp),Below.heap_setCell _ _ _ _ (by simp),Below.heap_setCell _ _ _ _ (by simp),Below.heap_setCell _ _ _ _ (by simp),Below.heap_setCell _ _ _ _ (by simp),Below.heap_setCell _ _ _ _ (by simp)]; exact hr
 clear he hr h2 g2 H1 G1 E1 R1
 go_wp2_with fail
 refine (getType_short _ _ _ (unhide H2) hn).mono ?_
 rintro ee wz ⟨rfl,gz⟩
 exact ⟨rfl,rfl,grown_trans (unhide G2) gz⟩

set_option maxHeartbeats 2000000 in
theorem ether_type (B:Nat) (a b c d e f a' b' c' d' e' f' t t':UInt8) (l:List UInt8) (w:World) (h:Rdr w B (a::b::c::d::e::f::a'::b'::c'::d'::e'::f'::t::t'::l)) (hs:l.length≤1099511627000) (ht:Eth.okTy (256*(t.toNat:Int)+(t'.toNat:Int))=false) :
  Calls Tryz.prog 139 #[.pointer (some ⟨B,0,none⟩)] w fun ee w'=>ee=.panicked (errP 3)∧w.grownBy w' (some B):=by
 have hB:=h.lt
 have hne1:w.heap.size+1≠B:=by omega
 have hne0:w.heap.size≠B:=by omega
 have H0:=hide ((h.alloc (.cells #[.int .u8 0,.int .u8 0,.int .u8 0,.int .u8 0,.int .u8 0,.int .u8 0,.int .u8 0,.int .u8 0,.int .u8 0,.int .u8 0,.int .u8 0,.int .u8 0,.int .u16 0,.string ⟨#[]⟩] 111)).alloc (.cells #[.int .u8 0,.int .u8 0,.int .u8 0,.int .u8 0,.int .u8 0,.int .u8 0,.int .u8 0,.int .u8 0,.int .u8 0,.int .u8 0,.int .u8 0,.int .u8 0,.int .u16 0,.string ⟨#[]⟩] 111))
 have G0:=hide (grown_alloc (grown_alloc (grown_refl w (some B)) (.cells #[.int .u8 0,.int .u8 0,.int .u8 0,.int .u8 0,.int .u8 0,.int .u8 0,.int .u8 0,.int .u8 0,.int .u8 0,.int .u8 0,.int .u8 0,.int .u8 0,.int .u16 0,.string ⟨#[]⟩] 111)) (.cells #[.int .u8 0,.int .u8 0,.int .u8 0,.int .u8 0,.int .u8 0,.int .u8 0,.int .u8 0,.int .u8 0,.int .u8 0,.int .u8 0,.int .u8 0,.int .u8 0,.int .u16 0,.string ⟨#[]⟩] 111))
 have E0:Hid (((w.alloc (.cells #[.int .u8 0,.int .u8 0,.int .u8 0,.int .u8 0,.int .u8 0,.int .u8 0,.int .u8 0,.int .u8 0,.int .u8 0,.int .u8 0,.int .u8 0,.int .u8 0,.int .u16 0,.string ⟨#[]⟩] 111)).alloc (.cells #[.int .u8 0,.int .u8 0,.int .u8 0,.int .u8 0,.int .u8 0,.int .u8 0,.int .u8 0,.int .u8 0,.int .u8 0,.int .u8 0,.int .u8 0,.int .u8 0,.int .u16 0,.string ⟨#[]⟩] 111)).heap[w.heap.size+1]?=some (.cells #[.int .u8 0,.int .u8 0,.int .u8 0,.int .u8 0,.int .u8 0,.int .u8 0,.int .u8 0,.int .u8 0,.int .u8 0,.int .u8 0,.int .u8 0,.int .u8 0,.int .u16 0,.string ⟨#[]⟩] 111 (0,0))):=by
  have q:=heap_alloc_new (w.alloc (.cells #[.int .u8 0,.int .u8 0,.int .u8 0,.int .u8 0,.int .u8 0,.int .u8 0,.int .u8 0,.int .u8 0,.int .u8 0,.int .u8 0,.int .u8 0,.int .u8 0,.int .u16 0,.string ⟨#[]⟩] 111)) (.cells #[.int .u8 0,.int .u8 0,.int .u8 0,.int .u8 0,.int .u8 0,.int .u8 0,.int .u8 0,.int .u8 0,.int .u8 0,.int .u8 0,.int .u8 0,.int .u8 0,.int .u16 0,.string ⟨#[]⟩] 111)
  rw [show (w.alloc (.cells #[.int .u8 0,.int .u8 0,.int .u8 0,.int .u8 0,.int .u8 0,.int .u8 0,.int .u8 0,.int .u8 0,.int .u8 0,.int .u8 0,.int .u8 0,.int .u8 0,.int .u16 0,.string ⟨#[]⟩] 111)).heap.size=w.heap.size+1 by simp] at q
  exact q
 have R0:Hid (((w.alloc (.cells #[.int .u8 0,.int .u8 0,.int .u8 0,.int .u8 0,.int .u8 0,.int .u8 0,.int .u8 0,.int .u8 0,.int .u8 0,.int .u8 0,.int .u8 0,.int .u8 0,.int .u16 0,.string ⟨#[]⟩] 111)).alloc (.cells #[.int .u8 0,.int .u8 0,.int .u8 0,.int .u8 0,.int .u8 0,.int .u8 0,.int .u8 0,.int .u8 0,.int .u8 0,.int .u8 0,.int .u8 0,.int .u8 0,.int .u16 0,.string ⟨#[]⟩] 111)).heap[w.heap.size]?=some (.cells #[.int .u8 0,.int .u8 0,.int .u8 0,.int .u8 0,.int .u8 0,.int .u8 0,.int .u8 0,.int .u8 0,.int .u8 0,.int .u8 0,.int .u8 0,.int .u8 0,.int .u16 0,.string ⟨#[]⟩] 111 (0,0))):=by
  show _=_
  rw [Below.heap_alloc _ _ _ (by simp)]; exact heap_alloc_new w _
 clear h
 have T3:=hide (fun u hu=>getType_no B t t' l u hu (by simp only [List.length_cons,maxLen]; omega) ht)
 clear ht
 go_enter Tryz.func139,Tryz.ntmps139
 go_wp2_with fail
 refine (card_ok _ _ _ _ _ _ _ _ _ (unhide H0) (by simp only [List.length_cons,maxLen]; omega)).mono ?_
 rintro ee w1 ⟨rfl,h1,g1⟩
 have he:w1.heap[w.heap.size+1]?=some (.cells #[.int .u8 0,.int .u8 0,.int .u8 0,.int .u8 0,.int .u8 0,.int .u8 0,.int .u8 0,.int .u8 0,.int .u8 0,.int .u8 0,.int .u8 0,.int .u8 0,.int .u16 0,.string ⟨#[]⟩] 111 (0,0)):=(g1.block _ (lt_of_block (unhide E0)) (fun q=>hne1 (by simpa using q))).trans (unhide E0)
 have hr:w1.heap[w.heap.size]?=some (.cells #[.int .u8 0,.int .u8 0,.int .u8 0,.int .u8 0,.int .u8 0,.int .u8 0,.int .u8 0,.int .u8 0,.int .u8 0,.int .u8 0,.int .u8 0,.int .u8 0,.int .u16 0,.string ⟨#[]⟩] 111 (0,0)):=(g1.block _ (lt_of_block (unhide R0)) (fun q=>hne0 (by simpa using q))).trans (unhide R0)
 have cw1_0:w1.cell? ⟨w.heap.size+1,0,none⟩=some (.int .u8 0):=row_cell he rfl
 have cw1_1:w1.cell? ⟨w.heap.size+1,1,none⟩=some (.int .u8 0):=row_cell he rfl
 have cw1_2:w1.cell? ⟨w.heap.size+1,2,none⟩=some (.int .u8 0):=row_cell he rfl
 have cw1_3:w1.cell? ⟨w.heap.size+1,3,none⟩=some (.int .u8 0):=row_cell he rfl
 have cw1_4:w1.cell? ⟨w.heap.size+1,4,none⟩=some (.int .u8 0):=row_cell he rfl
 have cw1_5:w1.cell? ⟨w.heap.size+1,5,none⟩=some (.int .u8 0):=row_cell he rfl
 have fw1:=row_free he
 have E1:Hid (((((((w1.setCell ⟨w.heap.size+1,0,none⟩ (.int .u8 a.toNat)).setCell ⟨w.heap.size+1,1,none⟩ (.int .u8 b.toNat)).setCell ⟨w.heap.size+1,2,none⟩ (.int .u8 c.toNat)).setCell ⟨w.heap.size+1,3,none⟩ (.int .u8 d.toNat)).setCell ⟨w.heap.size+1,4,none⟩ (.int .u8 e.toNat)).setCell ⟨w.heap.size+1,5,none⟩ (.int .u8 f.toNat)).heap[w.heap.size+1]?=some (.cells #[.int .u8 a.toNat,.int .u8 b.toNat,.int .u8 c.toNat,.int .u8 d.toNat,.int .u8 e.toNat,.int .u8 f.toNat,.int .u8 0,.int .u8 0,.int .u8 0,.int .u8 0,.int .u8 0,.int .u8 0,.int .u16 0,.string ⟨#[]⟩] 111 (0,0))):=row_set (row_set (row_set (row_set (row_set (row_set (he) 0 (.int .u8 a.toNat)) 1 (.int .u8 b.toNat)) 2 (.int .u8 c.toNat)) 3 (.int .u8 d.toNat)) 4 (.int .u8 e.toNat)) 5 (.int .u8 f.toNat)
 have H1:Hid (Rdr ((((((w1.setCell ⟨w.heap.size+1,0,none⟩ (.int .u8 a.toNat)).setCell ⟨w.heap.size+1,1,none⟩ (.int .u8 b.toNat)).setCell ⟨w.heap.size+1,2,none⟩ (.int .u8 c.toNat)).setCell ⟨w.heap.size+1,3,none⟩ (.int .u8 d.toNat)).setCell ⟨w.heap.size+1,4,none⟩ (.int .u8 e.toNat)).setCell ⟨w.heap.size+1,5,none⟩ (.int .u8 f.toNat)) B (a'::b'::c'::d'::e'::f'::t::t'::l)):=other (other (other (other (other (other (h1) hne1.symm _) hne1.symm _) hne1.symm _) hne1.symm _) hne1.symm _) hne1.symm _
 have G1:Hid (w.grownBy ((((((w1.setCell ⟨w.heap.size+1,0,none⟩ (.int .u8 a.toNat)).setCell ⟨w.heap.size+1,1,none⟩ (.int .u8 b.toNat)).setCell ⟨w.heap.size+1,2,none⟩ (.int .u8 c.toNat)).setCell ⟨w.heap.size+1,3,none⟩ (.int .u8 d.toNat)).setCell ⟨w.heap.size+1,4,none⟩ (.int .u8 e.toNat)).setCell ⟨w.heap.size+1,5,none⟩ (.int .u8 f.toNat)) (some B)):=grown_new (grown_new (grown_new (grown_new (grown_new (grown_new (grown_trans (unhide G0) g1) (Nat.le_succ _) _) (Nat.le_succ _) _) (Nat.le_succ _) _) (Nat.le_succ _) _) (Nat.le_succ _) _) (Nat.le_succ _) _
 have R1:Hid (((((((w1.setCell ⟨w.heap.size+1,0,none⟩ (.int .u8 a.toNat)).setCell ⟨w.heap.size+1,1,none⟩ (.int .u8 b.toNat)).setCell ⟨w.heap.size+1,2,none⟩ (.int .u8 c.toNat)).setCell ⟨w.heap.size+1,3,none⟩ (.int .u8 d.toNat)).setCell ⟨w.heap.size+1,4,none⟩ (.int .u8 e.toNat)).setCell ⟨w.heap.size+1,5,none⟩ (.int .u8 f.toNat)).heap[w.heap.size]?=some (.cells #[.int .u8 0,.int .u8 0,.int .u8 0,.int .u8 0,.int .u8 0,.int .u8 0,.int .u8 0,.int .u8 0,.int .u8 0,.int .u8 0,.int .u8 0,.int .u8 0,.int .u16 0,.string ⟨#[]⟩] 111 (0,0))):=by
  show _=_
  rw [Below.heap_setCell _ _ _ _ (by simp),Below.heap_setCell _ _ _ _ (by simp),Below.heap_setCell _ _ _ _ (by simp),Below.heap_setCell _ _ _ _ (by simp),Below.heap_setCell _ _ _ _ (by simp),Below.heap_setCell _ _ _ _ (by simp)]; exact hr
 clear he hr h1 g1 H0 G0 E0 R0
 go_wp2_with fail
 refine (card_ok _ _ _ _ _ _ _ _ _ (unhide H1) (by simp only [List.length_cons,maxLen]; omega)).mono ?_
 rintro ee w2 ⟨rfl,h2,g2⟩
 have he:w2.heap[w.heap.size+1]?=some (.cells #[.int .u8 a.toNat,.int .u8 b.toNat,.int .u8 c.toNat,.int .u8 d.toNat,.int .u8 e.toNat,.int .u8 f.toNat,.int .u8 0,.int .u8 0,.int .u8 0,.int .u8 0,.int .u8 0,.int .u8 0,.int .u16 0,.string ⟨#[]⟩] 111 (0,0)):=(g2.block _ (lt_of_block (unhide E1)) (fun q=>hne1 (by simpa using q))).trans (unhide E1)
 have hr:w2.heap[w.heap.size]?=some (.cells #[.int .u8 0,.int .u8 0,.int .u8 0,.int .u8 0,.int .u8 0,.int .u8 0,.int .u8 0,.int .u8 0,.int .u8 0,.int .u8 0,.int .u8 0,.int .u8 0,.int .u16 0,.string ⟨#[]⟩] 111 (0,0)):=(g2.block _ (lt_of_block (unhide R1)) (fun q=>hne0 (by simpa using q))).trans (unhide R1)
 have cw2_6:w2.cell? ⟨w.heap.size+1,6,none⟩=some (.int .u8 0):=row_cell he rfl
 have cw2_7:w2.cell? ⟨w.heap.size+1,7,none⟩=some (.int .u8 0):=row_cell he rfl
 have cw2_8:w2.cell? ⟨w.heap.size+1,8,none⟩=some (.int .u8 0):=row_cell he rfl
 have cw2_9:w2.cell? ⟨w.heap.size+1,9,none⟩=some (.int .u8 0):=row_cell he rfl
 have cw2_10:w2.cell? ⟨w.heap.size+1,10,none⟩=some (.int .u8 0):=row_cell he rfl
 have cw2_11:w2.cell? ⟨w.heap.size+1,11,none⟩=some (.int .u8 0):=row_cell he rfl
 have fw2:=row_free he
 have E2:Hid (((((((w2.setCell ⟨w.heap.size+1,6,none⟩ (.int .u8 a'.toNat)).setCell ⟨w.heap.size+1,7,none⟩ (.int .u8 b'.toNat)).setCell ⟨w.heap.size+1,8,none⟩ (.int .u8 c'.toNat)).setCell ⟨w.heap.size+1,9,none⟩ (.int .u8 d'.toNat)).setCell ⟨w.heap.size+1,10,none⟩ (.int .u8 e'.toNat)).setCell ⟨w.heap.size+1,11,none⟩ (.int .u8 f'.toNat)).heap[w.heap.size+1]?=some (.cells #[.int .u8 a.toNat,.int .u8 b.toNat,.int .u8 c.toNat,.int .u8 d.toNat,.int .u8 e.toNat,.int .u8 f.toNat,.int .u8 a'.toNat,.int .u8 b'.toNat,.int .u8 c'.toNat,.int .u8 d'.toNat,.int .u8 e'.toNat,.int .u8 f'.toNat,.int .u16 0,.string ⟨#[]⟩] 111 (0,0))):=row_set (row_set (row_set (row_set (row_set (row_set (he) 6 (.int .u8 a'.toNat)) 7 (.int .u8 b'.toNat)) 8 (.int .u8 c'.toNat)) 9 (.int .u8 d'.toNat)) 10 (.int .u8 e'.toNat)) 11 (.int .u8 f'.toNat)
 have H2:Hid (Rdr ((((((w2.setCell ⟨w.heap.size+1,6,none⟩ (.int .u8 a'.toNat)).setCell ⟨w.heap.size+1,7,none⟩ (.int .u8 b'.toNat)).setCell ⟨w.heap.size+1,8,none⟩ (.int .u8 c'.toNat)).setCell ⟨w.heap.size+1,9,none⟩ (.int .u8 d'.toNat)).setCell ⟨w.heap.size+1,10,none⟩ (.int .u8 e'.toNat)).setCell ⟨w.heap.size+1,11,none⟩ (.int .u8 f'.toNat)) B (t::t'::l)):=other (other (other (other (other (other (h2) hne1.symm _) hne1.symm _) hne1.symm _) hne1.symm _) hne1.symm _) hne1.symm _
 have G2:Hid (w.grownBy ((((((w2.setCell ⟨w.heap.size+1,6,none⟩ (.int .u8 a'.toNat)).setCell ⟨w.heap.size+1,7,none⟩ (.int .u8 b'.toNat)).setCell ⟨w.heap.size+1,8,none⟩ (.int .u8 c'.toNat)).setCell ⟨w.heap.size+1,9,none⟩ (.int .u8 d'.toNat)).setCell ⟨w.heap.size+1,10,none⟩ (.int .u8 e'.toNat)).setCell ⟨w.heap.size+1,11,none⟩ (.int .u8 f'.toNat)) (some B)):=grown_new (grown_new (grown_new (grown_new (grown_new (grown_new (grown_trans (unhide G1) g2) (Nat.le_succ _) _) (Nat.le_succ _) _) (Nat.le_succ _) _) (Nat.le_succ _) _) (Nat.le_succ _) _) (Nat.le_succ _) _
 have R2:Hid (((((((w2.setCell ⟨w.heap.size+1,6,none⟩ (.int .u8 a'.toNat)).setCell ⟨w.heap.size+1,7,none⟩ (.int .u8 b'.toNat)).setCell ⟨w.heap.size+1,8,none⟩ (.int .u8 c'.toNat)).setCell ⟨w.heap.size+1,9,none⟩ (.int .u8 d'.toNat)).setCell ⟨w.heap.size+1,10,none⟩ (.int .u8 e'.toNat)).setCell ⟨w.heap.size+1,11,none⟩ (.int .u8 f'.toNat)).heap[w.heap.size]?=some (.cells #[.int .u8 0,.int .u8 0,.int .u8 0,.int .u8 0,.int .u8 0,.int .u8 0,.int .u8 0,.int .u8 0,.int .u8 0,.int .u8 0,.int .u8 0,.int .u8 0,.int .u16 0,.string ⟨#[]⟩] 111 (0,0))):=by
  show _=_
  rw [Below.heap_setCell _ _ _ _ (by simp),Below.heap_setCell _ _ _ _ (by simp),Below.heap_setCell _ _ _ _ (by simp),Below.heap_setCell _ _ _ _ (by simp),Below.heap_setCell _ _ _ _ (by simp),Below.heap_setCell _ _ _ _ (by simp)]; exact hr
 clear he hr h2 g2 H1 G1 E1 R1
 go_wp2_with fail
 refine (unhide T3 _ (unhide H2)).mono ?_
 rintro ee wz ⟨rfl,gz⟩
 exact ⟨rfl,rfl,grown_trans (unhide G2) gz⟩

set_option maxHeartbeats 2000000 in
theorem ether_long (B:Nat) (a b c d e f a' b' c' d' e' f' t t':UInt8) (l:List UInt8) (w:World) (h:Rdr w B (a::b::c::d::e::f::a'::b'::c'::d'::e'::f'::t::t'::l)) (hs:l.length≤1099511627000) (ht:Eth.okTy (256*(t.toNat:Int)+(t'.toNat:Int))=true) (hl:Eth.okLoad ⟨l.toArray⟩=false) :
  Calls Tryz.prog 139 #[.pointer (some ⟨B,0,none⟩)] w fun ee w'=>ee=.panicked (errP 7)∧w.grownBy w' (some B):=by
 have hB:=h.lt
 have hne1:w.heap.size+1≠B:=by omega
 have hne0:w.heap.size≠B:=by omega
 have H0:=hide ((h.alloc (.cells #[.int .u8 0,.int .u8 0,.int .u8 0,.int .u8 0,.int .u8 0,.int .u8 0,.int .u8 0,.int .u8 0,.int .u8 0,.int .u8 0,.int .u8 0,.int .u8 0,.int .u16 0,.string ⟨#[]⟩] 111)).alloc (.cells #[.int .u8 0,.int .u8 0,.int .u8 0,.int .u8 0,.int .u8 0,.int .u8 0,.int .u8 0,.int .u8 0,.int .u8 0,.int .u8 0,.int .u8 0,.int .u8 0,.int .u16 0,.string ⟨#[]⟩] 111))
 have G0:=hide (grown_alloc (grown_alloc (grown_refl w (some B)) (.cells #[.int .u8 0,.int .u8 0,.int .u8 0,.int .u8 0,.int .u8 0,.int .u8 0,.int .u8 0,.int .u8 0,.int .u8 0,.int .u8 0,.int .u8 0,.int .u8 0,.int .u16 0,.string ⟨#[]⟩] 111)) (.cells #[.int .u8 0,.int .u8 0,.int .u8 0,.int .u8 0,.int .u8 0,.int .u8 0,.int .u8 0,.int .u8 0,.int .u8 0,.int .u8 0,.int .u8 0,.int .u8 0,.int .u16 0,.string ⟨#[]⟩] 111))
 have E0:Hid (((w.alloc (.cells #[.int .u8 0,.int .u8 0,.int .u8 0,.int .u8 0,.int .u8 0,.int .u8 0,.int .u8 0,.int .u8 0,.int .u8 0,.int .u8 0,.int .u8 0,.int .u8 0,.int .u16 0,.string ⟨#[]⟩] 111)).alloc (.cells #[.int .u8 0,.int .u8 0,.int .u8 0,.int .u8 0,.int .u8 0,.int .u8 0,.int .u8 0,.int .u8 0,.int .u8 0,.int .u8 0,.int .u8 0,.int .u8 0,.int .u16 0,.string ⟨#[]⟩] 111)).heap[w.heap.size+1]?=some (.cells #[.int .u8 0,.int .u8 0,.int .u8 0,.int .u8 0,.int .u8 0,.int .u8 0,.int .u8 0,.int .u8 0,.int .u8 0,.int .u8 0,.int .u8 0,.int .u8 0,.int .u16 0,.string ⟨#[]⟩] 111 (0,0))):=by
  have q:=heap_alloc_new (w.alloc (.cells #[.int .u8 0,.int .u8 0,.int .u8 0,.int .u8 0,.int .u8 0,.int .u8 0,.int .u8 0,.int .u8 0,.int .u8 0,.int .u8 0,.int .u8 0,.int .u8 0,.int .u16 0,.string ⟨#[]⟩] 111)) (.cells #[.int .u8 0,.int .u8 0,.int .u8 0,.int .u8 0,.int .u8 0,.int .u8 0,.int .u8 0,.int .u8 0,.int .u8 0,.int .u8 0,.int .u8 0,.int .u8 0,.int .u16 0,.string ⟨#[]⟩] 111)
  rw [show (w.alloc (.cells #[.int .u8 0,.int .u8 0,.int .u8 0,.int .u8 0,.int .u8 0,.int .u8 0,.int .u8 0,.int .u8 0,.int .u8 0,.int .u8 0,.int .u8 0,.int .u8 0,.int .u16 0,.string ⟨#[]⟩] 111)).heap.size=w.heap.size+1 by simp] at q
  exact q
 have R0:Hid (((w.alloc (.cells #[.int .u8 0,.int .u8 0,.int .u8 0,.int .u8 0,.int .u8 0,.int .u8 0,.int .u8 0,.int .u8 0,.int .u8 0,.int .u8 0,.int .u8 0,.int .u8 0,.int .u16 0,.string ⟨#[]⟩] 111)).alloc (.cells #[.int .u8 0,.int .u8 0,.int .u8 0,.int .u8 0,.int .u8 0,.int .u8 0,.int .u8 0,.int .u8 0,.int .u8 0,.int .u8 0,.int .u8 0,.int .u8 0,.int .u16 0,.string ⟨#[]⟩] 111)).heap[w.heap.size]?=some (.cells #[.int .u8 0,.int .u8 0,.int .u8 0,.int .u8 0,.int .u8 0,.int .u8 0,.int .u8 0,.int .u8 0,.int .u8 0,.int .u8 0,.int .u8 0,.int .u8 0,.int .u16 0,.string ⟨#[]⟩] 111 (0,0))):=by
  show _=_
  rw [Below.heap_alloc _ _ _ (by simp)]; exact heap_alloc_new w _
 clear h
 have T3:=hide (fun u hu=>getType_ok B t t' l u hu (by simp only [List.length_cons,maxLen]; omega) ht)
 have T4:=hide (fun u hu=>getLoad_no B l u hu (by omega) hl)
 obtain ⟨x,hx⟩:∃ x,x=256*(t.toNat:Int)+(t'.toNat:Int):=⟨_,rfl⟩
 rw [← hx] at T3
 clear ht hl hx
 go_enter Tryz.func139,Tryz.ntmps139
 go_wp2_with fail
 refine (card_ok _ _ _ _ _ _ _ _ _ (unhide H0) (by simp only [List.length_cons,maxLen]; omega)).mono ?_
 rintro ee w1 ⟨rfl,h1,g1⟩
 have he:w1.heap[w.heap.size+1]?=some (.cells #[.int .u8 0,.int .u8 0,.int .u8 0,.int .u8 0,.int .u8 0,.int .u8 0,.int .u8 0,.int .u8 0,.int .u8 0,.int .u8 0,.int .u8 0,.int .u8 0,.int .u16 0,.string ⟨#[]⟩] 111 (0,0)):=(g1.block _ (lt_of_block (unhide E0)) (fun q=>hne1 (by simpa using q))).trans (unhide E0)
 have hr:w1.heap[w.heap.size]?=some (.cells #[.int .u8 0,.int .u8 0,.int .u8 0,.int .u8 0,.int .u8 0,.int .u8 0,.int .u8 0,.int .u8 0,.int .u8 0,.int .u8 0,.int .u8 0,.int .u8 0,.int .u16 0,.string ⟨#[]⟩] 111 (0,0)):=(g1.block _ (lt_of_block (unhide R0)) (fun q=>hne0 (by simpa using q))).trans (unhide R0)
 have cw1_0:w1.cell? ⟨w.heap.size+1,0,none⟩=some (.int .u8 0):=row_cell he rfl
 have cw1_1:w1.cell? ⟨w.heap.size+1,1,none⟩=some (.int .u8 0):=row_cell he rfl
 have cw1_2:w1.cell? ⟨w.heap.size+1,2,none⟩=some (.int .u8 0):=row_cell he rfl
 have cw1_3:w1.cell? ⟨w.heap.size+1,3,none⟩=some (.int .u8 0):=row_cell he rfl
 have cw1_4:w1.cell? ⟨w.heap.size+1,4,none⟩=some (.int .u8 0):=row_cell he rfl
 have cw1_5:w1.cell? ⟨w.heap.size+1,5,none⟩=some (.int .u8 0):=row_cell he rfl
 have fw1:=row_free he
 have E1:Hid (((((((w1.setCell ⟨w.heap.size+1,0,none⟩ (.int .u8 a.toNat)).setCell ⟨w.heap.size+1,1,none⟩ (.int .u8 b.toNat)).setCell ⟨w.heap.size+1,2,none⟩ (.int .u8 c.toNat)).setCell ⟨w.heap.size+1,3,none⟩ (.int .u8 d.toNat)).setCell ⟨w.heap.size+1,4,none⟩ (.int .u8 e.toNat)).setCell ⟨w.heap.size+1,5,none⟩ (.int .u8 f.toNat)).heap[w.heap.size+1]?=some (.cells #[.int .u8 a.toNat,.int .u8 b.toNat,.int .u8 c.toNat,.int .u8 d.toNat,.int .u8 e.toNat,.int .u8 f.toNat,.int .u8 0,.int .u8 0,.int .u8 0,.int .u8 0,.int .u8 0,.int .u8 0,.int .u16 0,.string ⟨#[]⟩] 111 (0,0))):=row_set (row_set (row_set (row_set (row_set (row_set (he) 0 (.int .u8 a.toNat)) 1 (.int .u8 b.toNat)) 2 (.int .u8 c.toNat)) 3 (.int .u8 d.toNat)) 4 (.int .u8 e.toNat)) 5 (.int .u8 f.toNat)
 have H1:Hid (Rdr ((((((w1.setCell ⟨w.heap.size+1,0,none⟩ (.int .u8 a.toNat)).setCell ⟨w.heap.size+1,1,none⟩ (.int .u8 b.toNat)).setCell ⟨w.heap.size+1,2,none⟩ (.int .u8 c.toNat)).setCell ⟨w.heap.size+1,3,none⟩ (.int .u8 d.toNat)).setCell ⟨w.heap.size+1,4,none⟩ (.int .u8 e.toNat)).setCell ⟨w.heap.size+1,5,none⟩ (.int .u8 f.toNat)) B (a'::b'::c'::d'::e'::f'::t::t'::l)):=other (other (other (other (other (other (h1) hne1.symm _) hne1.symm _) hne1.symm _) hne1.symm _) hne1.symm _) hne1.symm _
 have G1:Hid (w.grownBy ((((((w1.setCell ⟨w.heap.size+1,0,none⟩ (.int .u8 a.toNat)).setCell ⟨w.heap.size+1,1,none⟩ (.int .u8 b.toNat)).setCell ⟨w.heap.size+1,2,none⟩ (.int .u8 c.toNat)).setCell ⟨w.heap.size+1,3,none⟩ (.int .u8 d.toNat)).setCell ⟨w.heap.size+1,4,none⟩ (.int .u8 e.toNat)).setCell ⟨w.heap.size+1,5,none⟩ (.int .u8 f.toNat)) (some B)):=grown_new (grown_new (grown_new (grown_new (grown_new (grown_new (grown_trans (unhide G0) g1) (Nat.le_succ _) _) (Nat.le_succ _) _) (Nat.le_succ _) _) (Nat.le_succ _) _) (Nat.le_succ _) _) (Nat.le_succ _) _
 have R1:Hid (((((((w1.setCell ⟨w.heap.size+1,0,none⟩ (.int .u8 a.toNat)).setCell ⟨w.heap.size+1,1,none⟩ (.int .u8 b.toNat)).setCell ⟨w.heap.size+1,2,none⟩ (.int .u8 c.toNat)).setCell ⟨w.heap.size+1,3,none⟩ (.int .u8 d.toNat)).setCell ⟨w.heap.size+1,4,none⟩ (.int .u8 e.toNat)).setCell ⟨w.heap.size+1,5,none⟩ (.int .u8 f.toNat)).heap[w.heap.size]?=some (.cells #[.int .u8 0,.int .u8 0,.int .u8 0,.int .u8 0,.int .u8 0,.int .u8 0,.int .u8 0,.int .u8 0,.int .u8 0,.int .u8 0,.int .u8 0,.int .u8 0,.int .u16 0,.string ⟨#[]⟩] 111 (0,0))):=by
  show _=_
  rw [Below.heap_setCell _ _ _ _ (by simp),Below.heap_setCell _ _ _ _ (by simp),Below.heap_setCell _ _ _ _ (by simp),Below.heap_setCell _ _ _ _ (by simp),Below.heap_setCell _ _ _ _ (by simp),Below.heap_setCell _ _ _ _ (by simp)]; exact hr
 clear he hr h1 g1 H0 G0 E0 R0
 go_wp2_with fail
 refine (card_ok _ _ _ _ _ _ _ _ _ (unhide H1) (by simp only [List.length_cons,maxLen]; omega)).mono ?_
 rintro ee w2 ⟨rfl,h2,g2⟩
 have he:w2.heap[w.heap.size+1]?=some (.cells #[.int .u8 a.toNat,.int .u8 b.toNat,.int .u8 c.toNat,.int .u8 d.toNat,.int .u8 e.toNat,.int .u8 f.toNat,.int .u8 0,.int .u8 0,.int .u8 0,.int .u8 0,.int .u8 0,.int .u8 0,.int .u16 0,.string ⟨#[]⟩] 111 (0,0)):=(g2.block _ (lt_of_block (unhide E1)) (fun q=>hne1 (by simpa using q))).trans (unhide E1)
 have hr:w2.heap[w.heap.size]?=some (.cells #[.int .u8 0,.int .u8 0,.int .u8 0,.int .u8 0,.int .u8 0,.int .u8 0,.int .u8 0,.int .u8 0,.int .u8 0,.int .u8 0,.int .u8 0,.int .u8 0,.int .u16 0,.string ⟨#[]⟩] 111 (0,0)):=(g2.block _ (lt_of_block (unhide R1)) (fun q=>hne0 (by simpa using q))).trans (unhide R1)
 have cw2_6:w2.cell? ⟨w.heap.size+1,6,none⟩=some (.int .u8 0):=row_cell he rfl
 have cw2_7:w2.cell? ⟨w.heap.size+1,7,none⟩=some (.int .u8 0):=row_cell he rfl
 have cw2_8:w2.cell? ⟨w.heap.size+1,8,none⟩=some (.int .u8 0):=row_cell he rfl
 have cw2_9:w2.cell? ⟨w.heap.size+1,9,none⟩=some (.int .u8 0):=row_cell he rfl
 have cw2_10:w2.cell? ⟨w.heap.size+1,10,none⟩=some (.int .u8 0):=row_cell he rfl
 have cw2_11:w2.cell? ⟨w.heap.size+1,11,none⟩=some (.int .u8 0):=row_cell he rfl
 have fw2:=row_free he
 have E2:Hid (((((((w2.setCell ⟨w.heap.size+1,6,none⟩ (.int .u8 a'.toNat)).setCell ⟨w.heap.size+1,7,none⟩ (.int .u8 b'.toNat)).setCell ⟨w.heap.size+1,8,none⟩ (.int .u8 c'.toNat)).setCell ⟨w.heap.size+1,9,none⟩ (.int .u8 d'.toNat)).setCell ⟨w.heap.size+1,10,none⟩ (.int .u8 e'.toNat)).setCell ⟨w.heap.size+1,11,none⟩ (.int .u8 f'.toNat)).heap[w.heap.size+1]?=some (.cells #[.int .u8 a.toNat,.int .u8 b.toNat,.int .u8 c.toNat,.int .u8 d.toNat,.int .u8 e.toNat,.int .u8 f.toNat,.int .u8 a'.toNat,.int .u8 b'.toNat,.int .u8 c'.toNat,.int .u8 d'.toNat,.int .u8 e'.toNat,.int .u8 f'.toNat,.int .u16 0,.string ⟨#[]⟩] 111 (0,0))):=row_set (row_set (row_set (row_set (row_set (row_set (he) 6 (.int .u8 a'.toNat)) 7 (.int .u8 b'.toNat)) 8 (.int .u8 c'.toNat)) 9 (.int .u8 d'.toNat)) 10 (.int .u8 e'.toNat)) 11 (.int .u8 f'.toNat)
 have H2:Hid (Rdr ((((((w2.setCell ⟨w.heap.size+1,6,none⟩ (.int .u8 a'.toNat)).setCell ⟨w.heap.size+1,7,none⟩ (.int .u8 b'.toNat)).setCell ⟨w.heap.size+1,8,none⟩ (.int .u8 c'.toNat)).setCell ⟨w.heap.size+1,9,none⟩ (.int .u8 d'.toNat)).setCell ⟨w.heap.size+1,10,none⟩ (.int .u8 e'.toNat)).setCell ⟨w.heap.size+1,11,none⟩ (.int .u8 f'.toNat)) B (t::t'::l)):=other (other (other (other (other (other (h2) hne1.symm _) hne1.symm _) hne1.symm _) hne1.symm _) hne1.symm _) hne1.symm _
 have G2:Hid (w.grownBy ((((((w2.setCell ⟨w.heap.size+1,6,none⟩ (.int .u8 a'.toNat)).setCell ⟨w.heap.size+1,7,none⟩ (.int .u8 b'.toNat)).setCell ⟨w.heap.size+1,8,none⟩ (.int .u8 c'.toNat)).setCell ⟨w.heap.size+1,9,none⟩ (.int .u8 d'.toNat)).setCell ⟨w.heap.size+1,10,none⟩ (.int .u8 e'.toNat)).setCell ⟨w.heap.size+1,11,none⟩ (.int .u8 f'.toNat)) (some B)):=grown_new (grown_new (grown_new (grown_new (grown_new (grown_new (grown_trans (unhide G1) g2) (Nat.le_succ _) _) (Nat.le_succ _) _) (Nat.le_succ _) _) (Nat.le_succ _) _) (Nat.le_succ _) _) (Nat.le_succ _) _
 have R2:Hid (((((((w2.setCell ⟨w.heap.size+1,6,none⟩ (.int .u8 a'.toNat)).setCell ⟨w.heap.size+1,7,none⟩ (.int .u8 b'.toNat)).setCell ⟨w.heap.size+1,8,none⟩ (.int .u8 c'.toNat)).setCell ⟨w.heap.size+1,9,none⟩ (.int .u8 d'.toNat)).setCell ⟨w.heap.size+1,10,none⟩ (.int .u8 e'.toNat)).setCell ⟨w.heap.size+1,11,none⟩ (.int .u8 f'.toNat)).heap[w.heap.size]?=some (.cells #[.int .u8 0,.int .u8 0,.int .u8 0,.int .u8 0,.int .u8 0,.int .u8 0,.int .u8 0,.int .u8 0,.int .u8 0,.int .u8 0,.int .u8 0,.int .u8 0,.int .u16 0,.string ⟨#[]⟩] 111 (0,0))):=by
  show _=_
  rw [Below.heap_setCell _ _ _ _ (by simp),Below.heap_setCell _ _ _ _ (by simp),Below.heap_setCell _ _ _ _ (by simp),Below.heap_setCell _ _ _ _ (by simp),Below.heap_setCell _ _ _ _ (by simp),Below.heap_setCell _ _ _ _ (by simp)]; exact hr
 clear he hr h2 g2 H1 G1 E1 R1
 go_wp2_with fail
 refine (unhide T3 _ (unhide H2)).mono ?_
 rintro ee w3 ⟨rfl,h3,g3⟩
 have he:w3.heap[w.heap.size+1]?=some (.cells #[.int .u8 a.toNat,.int .u8 b.toNat,.int .u8 c.toNat,.int .u8 d.toNat,.int .u8 e.toNat,.int .u8 f.toNat,.int .u8 a'.toNat,.int .u8 b'.toNat,.int .u8 c'.toNat,.int .u8 d'.toNat,.int .u8 e'.toNat,.int .u8 f'.toNat,.int .u16 0,.string ⟨#[]⟩] 111 (0,0)):=(g3.block _ (lt_of_block (unhide E2)) (fun q=>hne1 (by simpa using q))).trans (unhide E2)
 have hr:w3.heap[w.heap.size]?=some (.cells #[.int .u8 0,.int .u8 0,.int .u8 0,.int .u8 0,.int .u8 0,.int .u8 0,.int .u8 0,.int .u8 0,.int .u8 0,.int .u8 0,.int .u8 0,.int .u8 0,.int .u16 0,.string ⟨#[]⟩] 111 (0,0)):=(g3.block _ (lt_of_block (unhide R2)) (fun q=>hne0 (by simpa using q))).trans (unhide R2)
 have cw3_12:w3.cell? ⟨w.heap.size+1,12,none⟩=some (.int .u16 0):=row_cell he rfl
 have fw3:=row_free he
 have E3:Hid ((w3.setCell ⟨w.heap.size+1,12,none⟩ (.int .u16 x)).heap[w.heap.size+1]?=some (.cells #[.int .u8 a.toNat,.int .u8 b.toNat,.int .u8 c.toNat,.int .u8 d.toNat,.int .u8 e.toNat,.int .u8 f.toNat,.int .u8 a'.toNat,.int .u8 b'.toNat,.int .u8 c'.toNat,.int .u8 d'.toNat,.int .u8 e'.toNat,.int .u8 f'.toNat,.int .u16 x,.string ⟨#[]⟩] 111 (0,0))):=row_set (he) 12 (.int .u16 x)
 have H3:Hid (Rdr (w3.setCell ⟨w.heap.size+1,12,none⟩ (.int .u16 x)) B (l)):=other (h3) hne1.symm _
 have G3:Hid (w.grownBy (w3.setCell ⟨w.heap.size+1,12,none⟩ (.int .u16 x)) (some B)):=grown_new (grown_trans (unhide G2) g3) (Nat.le_succ _) _
 have R3:Hid ((w3.setCell ⟨w.heap.size+1,12,none⟩ (.int .u16 x)).heap[w.heap.size]?=some (.cells #[.int .u8 0,.int .u8 0,.int .u8 0,.int .u8 0,.int .u8 0,.int .u8 0,.int .u8 0,.int .u8 0,.int .u8 0,.int .u8 0,.int .u8 0,.int .u8 0,.int .u16 0,.string ⟨#[]⟩] 111 (0,0))):=by
  show _=_
  rw [Below.heap_setCell _ _ _ _ (by simp)]; exact hr
 clear he hr h3 g3 H2 G2 E2 R2
 go_wp2_with fail
 refine (unhide T4 _ (unhide H3)).mono ?_
 rintro ee wz ⟨rfl,gz⟩
 exact ⟨rfl,rfl,grown_trans (unhide G3) gz⟩

end Go.Proofs.YtbhbbeebncmaiaaGreatDoor.EtR
namespace Go.Proofs.YtbhbbeebncmaiaaGreatDoor.EtR
open Go.ChangeShapes Go.WideShapes Go.ChangeAt Go.RowKit Bs Rd
set_option linter.unusedVariables false
theorem assert_errno (k:Int) (w:World):(Instr.typeAssert (.iface 58 (.int .i64 k)) 20 58 false).run Tryz.prog w=.ok (.int .i64 k) w:=by kernel_rfl
theorem catch_panicking (p:Addr) (x k:Int) (older:List PanicEntry) (w:World) (hc:w.cell? p=some (.int .i64 x)) (hz:w.frozen? p=false) :
  CallsD Tryz.prog 159 #[.pointer (some p)] (.panicking ({ v:=.iface 58 (.int .i64 k),recovered:=false }::older)) w fun e u' w' =>
   e=.returned (.tuple #[])∧u'=.panicking ({ v:=.iface 58 (.int .i64 k),recovered:=true }::older)∧w'=w.setCell p (.int .i64 k):=by
 refine callsD_of_wpS Tryz.func159 rfl fun c₀ cs hu=>?_
 apply wpS_seq
 apply wpS_region
 simp [wpOpsS,go_sem,recoverD,hu,Tryz.ntmps159,Exit.thenS]
 refine wpS_of_wp ?_
 change Code.wp _ _ _ { tmps:=#[.pointer (some p),.iface 58 (.int .i64 k),.iface 58 (.int .i64 k),undef,undef,undef,undef],defers:=[] } _
 have hta:=fun u=>assert_errno k u
 go_wp2
 exact ⟨rfl,_,rfl,.tuple #[],by simp [results,Tryz.results159],rfl,rfl,rfl⟩

theorem catch_idle (p:Addr) (w:World) :
  CallsD Tryz.prog 159 #[.pointer (some p)] .returning w fun e u' w'=>e=.returned (.tuple #[])∧u'=.returning∧w'=w:=by
 refine callsD_of_wpS Tryz.func159 rfl fun c₀ cs hu=>?_
 apply wpS_seq
 apply wpS_region
 simp [wpOpsS,go_sem,recoverD,hu,Tryz.ntmps159,Exit.thenS]
 refine wpS_of_wp ?_
 change Code.wp _ _ _ { tmps:=#[.pointer (some p),.nilIface,.nilIface,undef,undef,undef,undef],defers:=[] } _
 go_wp2
 cases c₀
 simp_all [bodyPostS,results,Tryz.results159]

theorem new_reader (w:World) (B:Nat) (s:ByteArray) (h:B=w.heap.size):Rdr (w.alloc (.cells #[.string s] 217)) B s.data.toList:=by
 subst h
 unfold Rdr
 rw [str_eta]
 exact heap_alloc_new w _
theorem below_of {w W w1:World} {B:Nat} (g:W.grownBy w1 (some B)) (h:Below w.heap.size w W) (hB:w.heap.size≤B):Below w.heap.size w w1 :=
 h.grown g h.size (fun k hk=>by simp at hk; omega)
theorem blocks {w w1 W:World} {s:ByteArray} (g:W.grownBy w1 (some (w.heap.size+1+1))) (hW:W=((w.alloc (.cells #[.int .u8 0,.int .u8 0,.int .u8 0,.int .u8 0,.int .u8 0,.int .u8 0,.int .u8 0,.int .u8 0,.int .u8 0,.int .u8 0,.int .u8 0,.int .u8 0,.int .u16 0,.string ⟨#[]⟩] 111)).alloc (.cells #[.int .i64 0] 58)).alloc (.cells #[.string s] 217)) :
  w1.heap[w.heap.size]?=some (.cells #[.int .u8 0,.int .u8 0,.int .u8 0,.int .u8 0,.int .u8 0,.int .u8 0,.int .u8 0,.int .u8 0,.int .u8 0,.int .u8 0,.int .u8 0,.int .u8 0,.int .u16 0,.string ⟨#[]⟩] 111 (0,0))∧w1.heap[w.heap.size+1]?=some (.cells #[.int .i64 0] 58 (0,0)):=by
 have z2:((w.alloc (.cells #[.int .u8 0,.int .u8 0,.int .u8 0,.int .u8 0,.int .u8 0,.int .u8 0,.int .u8 0,.int .u8 0,.int .u8 0,.int .u8 0,.int .u8 0,.int .u8 0,.int .u16 0,.string ⟨#[]⟩] 111)).alloc (.cells #[.int .i64 0] 58)).heap.size=w.heap.size+1+1:=by simp
 have z1:(w.alloc (.cells #[.int .u8 0,.int .u8 0,.int .u8 0,.int .u8 0,.int .u8 0,.int .u8 0,.int .u8 0,.int .u8 0,.int .u8 0,.int .u8 0,.int .u8 0,.int .u8 0,.int .u16 0,.string ⟨#[]⟩] 111)).heap.size=w.heap.size+1:=by simp
 have e0:W.heap[w.heap.size]?=some (.cells #[.int .u8 0,.int .u8 0,.int .u8 0,.int .u8 0,.int .u8 0,.int .u8 0,.int .u8 0,.int .u8 0,.int .u8 0,.int .u8 0,.int .u8 0,.int .u8 0,.int .u16 0,.string ⟨#[]⟩] 111 (0,0)):=by
  rw [hW,Below.heap_alloc _ _ _ (by omega),Below.heap_alloc _ _ _ (by omega)]; exact heap_alloc_new w _
 have e1:W.heap[w.heap.size+1]?=some (.cells #[.int .i64 0] 58 (0,0)):=by
  rw [hW,Below.heap_alloc _ _ _ (by omega)]
  have q:=heap_alloc_new (w.alloc (.cells #[.int .u8 0,.int .u8 0,.int .u8 0,.int .u8 0,.int .u8 0,.int .u8 0,.int .u8 0,.int .u8 0,.int .u8 0,.int .u8 0,.int .u8 0,.int .u8 0,.int .u16 0,.string ⟨#[]⟩] 111)) (.cells #[.int .i64 0] 58)
  rw [z1] at q
  exact q
 exact ⟨(g.block _ (lt_of_block e0) (fun q=>by simp at q; omega)).trans e0,(g.block _ (lt_of_block e1) (fun q=>by simp at q)).trans e1⟩

set_option maxHeartbeats 1000000 in
theorem read_no (s:ByteArray) (k:Int) (w:World)
  (hR:∀ u B,Rdr u B s.data.toList→Calls Tryz.prog 139 #[.pointer (some ⟨B,0,none⟩)] u fun ee w'=>ee=.panicked (errP k)∧u.grownBy w' (some B)) :
  Calls Tryz.prog 138 #[.string s,.func (.func 139) #[] #[]] w fun ee w'=>ee=.returned (.tuple #[.agg #[.int .u8 0,.int .u8 0,.int .u8 0,.int .u8 0,.int .u8 0,.int .u8 0,.int .u8 0,.int .u8 0,.int .u8 0,.int .u8 0,.int .u8 0,.int .u8 0,.int .u16 0,.string ⟨#[]⟩],.int .i64 k])∧Below w.heap.size w w':=by
 have hmf:∀ (fn:Fn) (first cap:Array Value) (w:World),(Instr.makeFunc fn first cap).run Tryz.prog w=.ok (.func fn first cap) w:=fun _ _ _ _=>rfl
 have HR:=hide hR
 clear hR
 go_enter_defers Tryz.func138,Tryz.ntmps138
 go_wp2_with fail
 refine (unhide HR _ _ (new_reader _ _ s (by simp))).mono ?_
 rintro ee w1 ⟨rfl,g1⟩
 obtain ⟨hr,he⟩:=blocks g1 rfl
 have d0:w1.cell? ⟨w.heap.size,0,none⟩=some (.int .u8 0):=row_cell hr rfl
 have d1:w1.cell? ⟨w.heap.size,1,none⟩=some (.int .u8 0):=row_cell hr rfl
 have d2:w1.cell? ⟨w.heap.size,2,none⟩=some (.int .u8 0):=row_cell hr rfl
 have d3:w1.cell? ⟨w.heap.size,3,none⟩=some (.int .u8 0):=row_cell hr rfl
 have d4:w1.cell? ⟨w.heap.size,4,none⟩=some (.int .u8 0):=row_cell hr rfl
 have d5:w1.cell? ⟨w.heap.size,5,none⟩=some (.int .u8 0):=row_cell hr rfl
 have d6:w1.cell? ⟨w.heap.size,6,none⟩=some (.int .u8 0):=row_cell hr rfl
 have d7:w1.cell? ⟨w.heap.size,7,none⟩=some (.int .u8 0):=row_cell hr rfl
 have d8:w1.cell? ⟨w.heap.size,8,none⟩=some (.int .u8 0):=row_cell hr rfl
 have d9:w1.cell? ⟨w.heap.size,9,none⟩=some (.int .u8 0):=row_cell hr rfl
 have d10:w1.cell? ⟨w.heap.size,10,none⟩=some (.int .u8 0):=row_cell hr rfl
 have d11:w1.cell? ⟨w.heap.size,11,none⟩=some (.int .u8 0):=row_cell hr rfl
 have d12:w1.cell? ⟨w.heap.size,12,none⟩=some (.int .u16 0):=row_cell hr rfl
 have d13:w1.cell? ⟨w.heap.size,13,none⟩=some (.string ⟨#[]⟩):=row_cell hr rfl
 have hc:=cell_of_one he
 have hf:=free_of_one he
 refine leaves_cons (f:=159) (args:=#[.pointer (some ⟨w.heap.size+1,0,none⟩)]) (by simp) (by simp [go_sem]) ?_
 refine (catch_panicking ⟨w.heap.size+1,0,none⟩ 0 k [] _ hc hf).mono ?_
 rintro e u' w'' ⟨rfl,rfl,rfl⟩
 simp [Leaves,settle,results,Tryz.results138,go_sem,d0,d1,d2,d3,d4,d5,d6,d7,d8,d9,d10,d11,d12,d13,hc]
 exact (below_of g1 ((((Below.refl _ w).alloc (Nat.le_refl _) _).alloc (by simp) _).alloc (by simp; omega) _) (by omega)).setCell (by simp) _

theorem below_at {B j:Nat} {a w:World} {v:Value} (h:Below B a w):Below B a (w.setCell ⟨B,j,none⟩ v):=h.setCell (Nat.le_refl _) v
theorem row_set14 {w:World} {g:Nat} {t:TypeId} (b0 b1 b2 b3 b4 b5 b6 b7 b8 b9 b10 b11 b12 b13 v0 v1 v2 v3 v4 v5 v6 v7 v8 v9 v10 v11 v12 v13:Value) (h:w.heap[g]?=some (.cells #[b0,b1,b2,b3,b4,b5,b6,b7,b8,b9,b10,b11,b12,b13] t (0,0))) :
  ((((((((((((((w.setCell ⟨g,0,none⟩ v0).setCell ⟨g,1,none⟩ v1).setCell ⟨g,2,none⟩ v2).setCell ⟨g,3,none⟩ v3).setCell ⟨g,4,none⟩ v4).setCell ⟨g,5,none⟩ v5).setCell ⟨g,6,none⟩ v6).setCell ⟨g,7,none⟩ v7).setCell ⟨g,8,none⟩ v8).setCell ⟨g,9,none⟩ v9).setCell ⟨g,10,none⟩ v10).setCell ⟨g,11,none⟩ v11).setCell ⟨g,12,none⟩ v12).setCell ⟨g,13,none⟩ v13).heap[g]?=some (.cells #[v0,v1,v2,v3,v4,v5,v6,v7,v8,v9,v10,v11,v12,v13] t (0,0)):=by
 have h0:(w.setCell ⟨g,0,none⟩ v0).heap[g]?=some (.cells #[v0,b1,b2,b3,b4,b5,b6,b7,b8,b9,b10,b11,b12,b13] t (0,0)):=row_set h 0 v0
 have h1:((w.setCell ⟨g,0,none⟩ v0).setCell ⟨g,1,none⟩ v1).heap[g]?=some (.cells #[v0,v1,b2,b3,b4,b5,b6,b7,b8,b9,b10,b11,b12,b13] t (0,0)):=row_set h0 1 v1
 have h2:(((w.setCell ⟨g,0,none⟩ v0).setCell ⟨g,1,none⟩ v1).setCell ⟨g,2,none⟩ v2).heap[g]?=some (.cells #[v0,v1,v2,b3,b4,b5,b6,b7,b8,b9,b10,b11,b12,b13] t (0,0)):=row_set h1 2 v2
 have h3:((((w.setCell ⟨g,0,none⟩ v0).setCell ⟨g,1,none⟩ v1).setCell ⟨g,2,none⟩ v2).setCell ⟨g,3,none⟩ v3).heap[g]?=some (.cells #[v0,v1,v2,v3,b4,b5,b6,b7,b8,b9,b10,b11,b12,b13] t (0,0)):=row_set h2 3 v3
 have h4:(((((w.setCell ⟨g,0,none⟩ v0).setCell ⟨g,1,none⟩ v1).setCell ⟨g,2,none⟩ v2).setCell ⟨g,3,none⟩ v3).setCell ⟨g,4,none⟩ v4).heap[g]?=some (.cells #[v0,v1,v2,v3,v4,b5,b6,b7,b8,b9,b10,b11,b12,b13] t (0,0)):=row_set h3 4 v4
 have h5:((((((w.setCell ⟨g,0,none⟩ v0).setCell ⟨g,1,none⟩ v1).setCell ⟨g,2,none⟩ v2).setCell ⟨g,3,none⟩ v3).setCell ⟨g,4,none⟩ v4).setCell ⟨g,5,none⟩ v5).heap[g]?=some (.cells #[v0,v1,v2,v3,v4,v5,b6,b7,b8,b9,b10,b11,b12,b13] t (0,0)):=row_set h4 5 v5
 have h6:(((((((w.setCell ⟨g,0,none⟩ v0).setCell ⟨g,1,none⟩ v1).setCell ⟨g,2,none⟩ v2).setCell ⟨g,3,none⟩ v3).setCell ⟨g,4,none⟩ v4).setCell ⟨g,5,none⟩ v5).setCell ⟨g,6,none⟩ v6).heap[g]?=some (.cells #[v0,v1,v2,v3,v4,v5,v6,b7,b8,b9,b10,b11,b12,b13] t (0,0)):=row_set h5 6 v6
 have h7:((((((((w.setCell ⟨g,0,none⟩ v0).setCell ⟨g,1,none⟩ v1).setCell ⟨g,2,none⟩ v2).setCell ⟨g,3,none⟩ v3).setCell ⟨g,4,none⟩ v4).setCell ⟨g,5,none⟩ v5).setCell ⟨g,6,none⟩ v6).setCell ⟨g,7,none⟩ v7).heap[g]?=some (.cells #[v0,v1,v2,v3,v4,v5,v6,v7,b8,b9,b10,b11,b12,b13] t (0,0)):=row_set h6 7 v7
 have h8:(((((((((w.setCell ⟨g,0,none⟩ v0).setCell ⟨g,1,none⟩ v1).setCell ⟨g,2,none⟩ v2).setCell ⟨g,3,none⟩ v3).setCell ⟨g,4,none⟩ v4).setCell ⟨g,5,none⟩ v5).setCell ⟨g,6,none⟩ v6).setCell ⟨g,7,none⟩ v7).setCell ⟨g,8,none⟩ v8).heap[g]?=some (.cells #[v0,v1,v2,v3,v4,v5,v6,v7,v8,b9,b10,b11,b12,b13] t (0,0)):=row_set h7 8 v8
 have h9:((((((((((w.setCell ⟨g,0,none⟩ v0).setCell ⟨g,1,none⟩ v1).setCell ⟨g,2,none⟩ v2).setCell ⟨g,3,none⟩ v3).setCell ⟨g,4,none⟩ v4).setCell ⟨g,5,none⟩ v5).setCell ⟨g,6,none⟩ v6).setCell ⟨g,7,none⟩ v7).setCell ⟨g,8,none⟩ v8).setCell ⟨g,9,none⟩ v9).heap[g]?=some (.cells #[v0,v1,v2,v3,v4,v5,v6,v7,v8,v9,b10,b11,b12,b13] t (0,0)):=row_set h8 9 v9
 have h10:(((((((((((w.setCell ⟨g,0,none⟩ v0).setCell ⟨g,1,none⟩ v1).setCell ⟨g,2,none⟩ v2).setCell ⟨g,3,none⟩ v3).setCell ⟨g,4,none⟩ v4).setCell ⟨g,5,none⟩ v5).setCell ⟨g,6,none⟩ v6).setCell ⟨g,7,none⟩ v7).setCell ⟨g,8,none⟩ v8).setCell ⟨g,9,none⟩ v9).setCell ⟨g,10,none⟩ v10).heap[g]?=some (.cells #[v0,v1,v2,v3,v4,v5,v6,v7,v8,v9,v10,b11,b12,b13] t (0,0)):=row_set h9 10 v10
 have h11:((((((((((((w.setCell ⟨g,0,none⟩ v0).setCell ⟨g,1,none⟩ v1).setCell ⟨g,2,none⟩ v2).setCell ⟨g,3,none⟩ v3).setCell ⟨g,4,none⟩ v4).setCell ⟨g,5,none⟩ v5).setCell ⟨g,6,none⟩ v6).setCell ⟨g,7,none⟩ v7).setCell ⟨g,8,none⟩ v8).setCell ⟨g,9,none⟩ v9).setCell ⟨g,10,none⟩ v10).setCell ⟨g,11,none⟩ v11).heap[g]?=some (.cells #[v0,v1,v2,v3,v4,v5,v6,v7,v8,v9,v10,v11,b12,b13] t (0,0)):=row_set h10 11 v11
 have h12:(((((((((((((w.setCell ⟨g,0,none⟩ v0).setCell ⟨g,1,none⟩ v1).setCell ⟨g,2,none⟩ v2).setCell ⟨g,3,none⟩ v3).setCell ⟨g,4,none⟩ v4).setCell ⟨g,5,none⟩ v5).setCell ⟨g,6,none⟩ v6).setCell ⟨g,7,none⟩ v7).setCell ⟨g,8,none⟩ v8).setCell ⟨g,9,none⟩ v9).setCell ⟨g,10,none⟩ v10).setCell ⟨g,11,none⟩ v11).setCell ⟨g,12,none⟩ v12).heap[g]?=some (.cells #[v0,v1,v2,v3,v4,v5,v6,v7,v8,v9,v10,v11,v12,b13] t (0,0)):=row_set h11 12 v12
 have h13:((((((((((((((w.setCell ⟨g,0,none⟩ v0).setCell ⟨g,1,none⟩ v1).setCell ⟨g,2,none⟩ v2).setCell ⟨g,3,none⟩ v3).setCell ⟨g,4,none⟩ v4).setCell ⟨g,5,none⟩ v5).setCell ⟨g,6,none⟩ v6).setCell ⟨g,7,none⟩ v7).setCell ⟨g,8,none⟩ v8).setCell ⟨g,9,none⟩ v9).setCell ⟨g,10,none⟩ v10).setCell ⟨g,11,none⟩ v11).setCell ⟨g,12,none⟩ v12).setCell ⟨g,13,none⟩ v13).heap[g]?=some (.cells #[v0,v1,v2,v3,v4,v5,v6,v7,v8,v9,v10,v11,v12,v13] t (0,0)):=row_set h12 13 v13
 exact h13

set_option maxHeartbeats 1000000 in
theorem read_ok (s:ByteArray) (a0 a1 a2 a3 a4 a5 a6 a7 a8 a9 a10 a11 a12:Int) (a13:ByteArray) (w:World)
  (hR:∀ u B,Rdr u B s.data.toList→Calls Tryz.prog 139 #[.pointer (some ⟨B,0,none⟩)] u fun ee w'=>ee=.returned (.agg #[.int .u8 a0,.int .u8 a1,.int .u8 a2,.int .u8 a3,.int .u8 a4,.int .u8 a5,.int .u8 a6,.int .u8 a7,.int .u8 a8,.int .u8 a9,.int .u8 a10,.int .u8 a11,.int .u16 a12,.string a13])∧u.grownBy w' (some B)) :
  Calls Tryz.prog 138 #[.string s,.func (.func 139) #[] #[]] w fun ee w'=>ee=.returned (.tuple #[.agg #[.int .u8 a0,.int .u8 a1,.int .u8 a2,.int .u8 a3,.int .u8 a4,.int .u8 a5,.int .u8 a6,.int .u8 a7,.int .u8 a8,.int .u8 a9,.int .u8 a10,.int .u8 a11,.int .u16 a12,.string a13],.int .i64 0])∧Below w.heap.size w w':=by
 have hmf:∀ (fn:Fn) (first cap:Array Value) (w:World),(Instr.makeFunc fn first cap).run Tryz.prog w=.ok (.func fn first cap) w:=fun _ _ _ _=>rfl
 have HR:=hide hR
 clear hR
 go_enter_defers Tryz.func138,Tryz.ntmps138
 go_wp2_with fail
 refine (unhide HR _ _ (new_reader _ _ s (by simp))).mono ?_
 rintro ee w1 ⟨rfl,g1⟩
 obtain ⟨hr,he⟩:=blocks g1 rfl
 have d0:w1.cell? ⟨w.heap.size,0,none⟩=some (.int .u8 0):=row_cell hr rfl
 have d1:w1.cell? ⟨w.heap.size,1,none⟩=some (.int .u8 0):=row_cell hr rfl
 have d2:w1.cell? ⟨w.heap.size,2,none⟩=some (.int .u8 0):=row_cell hr rfl
 have d3:w1.cell? ⟨w.heap.size,3,none⟩=some (.int .u8 0):=row_cell hr rfl
 have d4:w1.cell? ⟨w.heap.size,4,none⟩=some (.int .u8 0):=row_cell hr rfl
 have d5:w1.cell? ⟨w.heap.size,5,none⟩=some (.int .u8 0):=row_cell hr rfl
 have d6:w1.cell? ⟨w.heap.size,6,none⟩=some (.int .u8 0):=row_cell hr rfl
 have d7:w1.cell? ⟨w.heap.size,7,none⟩=some (.int .u8 0):=row_cell hr rfl
 have d8:w1.cell? ⟨w.heap.size,8,none⟩=some (.int .u8 0):=row_cell hr rfl
 have d9:w1.cell? ⟨w.heap.size,9,none⟩=some (.int .u8 0):=row_cell hr rfl
 have d10:w1.cell? ⟨w.heap.size,10,none⟩=some (.int .u8 0):=row_cell hr rfl
 have d11:w1.cell? ⟨w.heap.size,11,none⟩=some (.int .u8 0):=row_cell hr rfl
 have d12:w1.cell? ⟨w.heap.size,12,none⟩=some (.int .u16 0):=row_cell hr rfl
 have d13:w1.cell? ⟨w.heap.size,13,none⟩=some (.string ⟨#[]⟩):=row_cell hr rfl
 have fr:=row_free hr
 have hc:=cell_of_one he
 have hf:=free_of_one he
 have HB:=hide (below_of g1 ((((Below.refl _ w).alloc (Nat.le_refl _) _).alloc (by simp) _).alloc (by simp; omega) _) (by omega))
 obtain ⟨U,hU⟩:∃ U,U=(((((((((((((((w1.setCell ⟨w.heap.size,0,none⟩ (.int .u8 a0)).setCell ⟨w.heap.size,1,none⟩ (.int .u8 a1)).setCell ⟨w.heap.size,2,none⟩ (.int .u8 a2)).setCell ⟨w.heap.size,3,none⟩ (.int .u8 a3)).setCell ⟨w.heap.size,4,none⟩ (.int .u8 a4)).setCell ⟨w.heap.size,5,none⟩ (.int .u8 a5)).setCell ⟨w.heap.size,6,none⟩ (.int .u8 a6)).setCell ⟨w.heap.size,7,none⟩ (.int .u8 a7)).setCell ⟨w.heap.size,8,none⟩ (.int .u8 a8)).setCell ⟨w.heap.size,9,none⟩ (.int .u8 a9)).setCell ⟨w.heap.size,10,none⟩ (.int .u8 a10)).setCell ⟨w.heap.size,11,none⟩ (.int .u8 a11)).setCell ⟨w.heap.size,12,none⟩ (.int .u16 a12)).setCell ⟨w.heap.size,13,none⟩ (.string a13)).setCell ⟨w.heap.size+1,0,none⟩ (.int .i64 0)):=⟨_,rfl⟩
 have hu:U.heap[w.heap.size]?=some (.cells #[.int .u8 a0,.int .u8 a1,.int .u8 a2,.int .u8 a3,.int .u8 a4,.int .u8 a5,.int .u8 a6,.int .u8 a7,.int .u8 a8,.int .u8 a9,.int .u8 a10,.int .u8 a11,.int .u16 a12,.string a13] 111 (0,0)):=by
  rw [hU,Below.heap_setCell _ _ _ _ (by simp)]
  exact row_set14 _ _ _ _ _ _ _ _ _ _ _ _ _ _ _ _ _ _ _ _ _ _ _ _ _ _ _ _ hr
 have hv:U.heap[w.heap.size+1]?=some (.cells #[.int .i64 0] 58 (0,0)):=by
  rw [hU]
  refine one_setCell (v:=.int .i64 0) ?_
  rw [Below.heap_setCell _ _ _ _ (by simp),Below.heap_setCell _ _ _ _ (by simp),Below.heap_setCell _ _ _ _ (by simp),Below.heap_setCell _ _ _ _ (by simp),Below.heap_setCell _ _ _ _ (by simp),Below.heap_setCell _ _ _ _ (by simp),Below.heap_setCell _ _ _ _ (by simp),Below.heap_setCell _ _ _ _ (by simp),Below.heap_setCell _ _ _ _ (by simp),Below.heap_setCell _ _ _ _ (by simp),Below.heap_setCell _ _ _ _ (by simp),Below.heap_setCell _ _ _ _ (by simp),Below.heap_setCell _ _ _ _ (by simp),Below.heap_setCell _ _ _ _ (by simp)]
  exact he
 have HBU:Hid (Below w.heap.size w U):=by
  show Below w.heap.size w U
  rw [hU]
  refine Below.setCell ?_ (by simp) _
  iterate 14 refine below_at ?_
  exact unhide HB
 have u0:U.cell? ⟨w.heap.size,0,none⟩=some (.int .u8 a0):=row_cell hu rfl
 have u1:U.cell? ⟨w.heap.size,1,none⟩=some (.int .u8 a1):=row_cell hu rfl
 have u2:U.cell? ⟨w.heap.size,2,none⟩=some (.int .u8 a2):=row_cell hu rfl
 have u3:U.cell? ⟨w.heap.size,3,none⟩=some (.int .u8 a3):=row_cell hu rfl
 have u4:U.cell? ⟨w.heap.size,4,none⟩=some (.int .u8 a4):=row_cell hu rfl
 have u5:U.cell? ⟨w.heap.size,5,none⟩=some (.int .u8 a5):=row_cell hu rfl
 have u6:U.cell? ⟨w.heap.size,6,none⟩=some (.int .u8 a6):=row_cell hu rfl
 have u7:U.cell? ⟨w.heap.size,7,none⟩=some (.int .u8 a7):=row_cell hu rfl
 have u8:U.cell? ⟨w.heap.size,8,none⟩=some (.int .u8 a8):=row_cell hu rfl
 have u9:U.cell? ⟨w.heap.size,9,none⟩=some (.int .u8 a9):=row_cell hu rfl
 have u10:U.cell? ⟨w.heap.size,10,none⟩=some (.int .u8 a10):=row_cell hu rfl
 have u11:U.cell? ⟨w.heap.size,11,none⟩=some (.int .u8 a11):=row_cell hu rfl
 have u12:U.cell? ⟨w.heap.size,12,none⟩=some (.int .u16 a12):=row_cell hu rfl
 have u13:U.cell? ⟨w.heap.size,13,none⟩=some (.string a13):=row_cell hu rfl
 have uv:=cell_of_one hv
 have HU:=hide hU
 clear g1 hr he hu hv hU
 go_wp2
 rw [← unhide HU]
 clear HU d0 d1 d2 d3 d4 d5 d6 d7 d8 d9 d10 d11 d12 d13 hc hf fr
 refine leaves_cons (f:=159) (args:=#[.pointer (some ⟨w.heap.size+1,0,none⟩)]) (by simp) (by simp [go_sem]) ?_
 refine (catch_idle ⟨w.heap.size+1,0,none⟩ _).mono ?_
 rintro e u' w'' ⟨rfl,rfl,rfl⟩
 simp [Leaves,settle,results,Tryz.results138,go_sem,u0,u1,u2,u3,u4,u5,u6,u7,u8,u9,u10,u11,u12,u13,uv]
 exact unhide HBU
end Go.Proofs.YtbhbbeebncmaiaaGreatDoor.EtR
