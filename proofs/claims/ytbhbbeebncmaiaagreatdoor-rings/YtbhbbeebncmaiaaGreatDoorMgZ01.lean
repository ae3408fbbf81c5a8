import Derived.Test.YtbhbbeebncmaiaaGreatDoorMgZ00
import Derived.Deep.RegionHeld3
namespace Go.Proofs.YtbhbbeebncmaiaaGreatDoor.Rb
open Go.ChangeShapes Go.WideShapes Go.ChangeAt Go.RowKit Bs
set_option linter.unusedVariables false
def bigL (x:Int):Nat→List UInt8
 | 0=>[]
 | n+1=>bigL (x / 256) n++[by8 x]

theorem byte_string (w:World) (y:Int):(convert 55 9 (.slice (some ⟨w.heap.size,0,none⟩) 1 1)).run Tryz.prog (w.alloc (.cells #[.int .u8 (y % 256)] 5))=.ok (.string ⟨#[by8 y]⟩) (w.alloc (.cells #[.int .u8 (y % 256)] 5)):=by
 refine run_convert_bytes_back _ _ _ 5 ⟨w.heap.size,0,none⟩ 1 [by8 y] Tryz.underlying55 Tryz.underlying5 Tryz.underlying9 (fun j hj=>?_)
 have e:j=0:=by simp at hj; exact hj
 subst e
 rw [cell_new w [.int .u8 (y % 256)] 5 0 (.int .u8 (y % 256)) rfl]
 simp only [List.getElem_cons_zero,by8_toNat]

theorem add_str (a b:List UInt8):(⟨a.toArray⟩:ByteArray)++(⟨b.toArray⟩:ByteArray)=⟨(a++b).toArray⟩:=by
 apply ByteArray.ext; rw [ByteArray.data_append]; simp

set_option maxHeartbeats 1000000 in
theorem big_any (x:Int) (n:Nat) (w:World) (h0:0≤x) (h1:x≤9223372036854775807) (hn:n≤8) :
  Calls Tryz.prog 131 #[.int .i64 x,.int .i64 n] w fun e w'=>e=.returned (.string ⟨(bigL x n).toArray⟩)∧Below w.heap.size w w':=by
 go_enter Tryz.func131,Tryz.ntmps131
 go_wp2
 go_loopw [0,1,5] (fun vx vn vs wr=>∃ (y:Int) (m:Nat) (t:List UInt8),m≤n∧0≤y∧y≤9223372036854775807∧vx=.int .i64 y∧vn=.int .i64 m∧vs=.string ⟨t.toArray⟩∧t.length≤n - m∧Hid (bigL y m++t=bigL x n)∧Below w.heap.size w wr) (fun _ vn _ _=>(intOf vn).toNat)
 case atStart=>exact ⟨x,n,[],Nat.le_refl _,h0,h1,rfl,rfl,rfl,by simp,hide (by simp),Below.refl _ _⟩
 case round =>
  obtain ⟨y,m,t,hm,hy0,hy1,rfl,rfl,rfl,ht,HE,hb⟩:=hrel
  rename World=>wr
  by_cases hlt:0<m
  ·have hcv:(convert 55 9 (.slice (some ⟨wr.heap.size,0,none⟩) 1 1)).run Tryz.prog (wr.alloc (.cells #[.int .u8 (y % 256)] 5))=.ok (.string ⟨#[by8 y]⟩) (wr.alloc (.cells #[.int .u8 (y % 256)] 5)):=byte_string wr y
   obtain ⟨m,rfl⟩:∃ p,m=p+1:=⟨m - 1,by omega⟩
   go_wp2
   go_roundw
   case rel =>
    refine ⟨y / 256,m,by8 y::t,by omega,by omega,by omega,rfl,by go_num,?_,by simp; omega,hide ?_,hb.alloc hb.size _⟩
    ·rw [add_str]; rfl
    ·rw [← unhide HE,bigL,List.append_assoc]; rfl
   case measure=>simp [intOf]
  ·have e:m=0:=by omega
   subst e
   go_wp2
   go_ret
   refine ⟨ret_str ?_,hb⟩
   rw [← unhide HE]
   rfl

set_option maxHeartbeats 1000000 in
theorem ip_any (x:Int) (w:World) (h0:0≤x) (h1:x≤4294967295) :
  Calls Tryz.prog 91 #[.int .u32 x] w fun e w'=>e=.returned (.string ⟨(bigL x 4).toArray⟩)∧Below w.heap.size w w':=by
 have hc:=hide (big_any x 4 w h0 (by omega) (by omega))
 go_enter Tryz.func91,Tryz.ntmps91
 go_wp2_with fail
 refine (unhide hc).mono ?_
 rintro e w1 ⟨rfl,hb⟩
 go_wp2
 go_ret
 exact ⟨rfl,hb⟩

end Go.Proofs.YtbhbbeebncmaiaaGreatDoor.Rb
namespace Go.Proofs.YtbhbbeebncmaiaaGreatDoor.Wt
open Go.ChangeShapes Go.WideShapes Go.ChangeAt Go.RowKit Bs
set_option linter.unusedVariables false
set_option maxHeartbeats 1000000 in
theorem text_any (B:Nat) (L:List UInt8) (w:World) (hW:Wr w B L) :
  Calls Tryz.prog 195 #[.pointer (some ⟨B,0,none⟩)] w fun e w'=>e=.returned (.string ⟨L.toArray⟩)∧w'=w:=by
 obtain ⟨v,hv,hown⟩:=hW
 have hc:=cell_of_one hv
 have hcv:=run_own_string w _ v L hown
 clear hv hown
 go_enter Tryz.func195,Tryz.ntmps195
 go_wp2
 go_ret
 exact ⟨rfl,rfl⟩

set_option maxHeartbeats 1000000 in
theorem longs_any (B bs cap:Nat) (ns:List Int) (L:List UInt8) (w:World) (hW:Wr w B L) (hb:B<bs)
  (hsrc:w.heap[bs]?=some (.cells (ns.map (Value.int .u32)).toArray 50 (0,0))) (hnr:∀ n ∈ ns,0≤n∧n≤4294967295) (hsz:L.length+4*ns.length≤1099511627776) :
  Calls Tryz.prog 229 #[.pointer (some ⟨B,0,none⟩),.slice (some ⟨bs,0,none⟩) ns.length cap] w fun e w' =>
   e=.returned (.tuple #[])∧Wr w' B (L++dwords8 ns)∧Kept B w w':=by
 have HS:=hide hsrc
 have HN:=hide hnr
 clear hsrc hnr
 go_enter Tryz.func229,Tryz.ntmps229
 go_wp2
 go_loopw [8] (fun i wr=>∃ k:Nat,k≤ns.length∧i=.int .i64 k∧Wr wr B (L++dwords8 (ns.take k))∧Kept B w wr) (fun i _=>ns.length - (intOf i).toNat)
 case atStart=>exact ⟨0,Nat.zero_le _,rfl,by simpa [dwords8] using hW,Kept.refl _ _⟩
 case round =>
  obtain ⟨k,hk,rfl,hWr,hK⟩:=hrel
  rename World=>wr
  by_cases hlt:k<ns.length
  ·have hsr:=hK.others _ _ _ _ hb (unhide HS) (by decide)
   obtain ⟨n,hn⟩:∃ n,ns[k]=n:=⟨_,rfl⟩
   obtain ⟨hn0,hn1⟩:=unhide HN ns[k] (List.getElem_mem hlt)
   rw [hn] at hn0 hn1
   have hcs:wr.cell? ⟨bs,k,none⟩=some (.int .u32 n):=by
    rw [cell_of_row wr bs k _ _ _ hsr]; simp [hlt,hn]
   have HT:=hide (dwords8_take ns k hlt)
   rw [hn] at HT
   have hlw:(dwords8 (ns.take k)).length≤4*k:=by rw [dwords8_length,List.length_take]; omega
   have hB:=hWr.lt
   clear hsr hn
   have hcall:=words_any B wr.heap.size 2 [n / 65536,n % 65536] _ _ (hWr.alloc (.cells #[.int .u16 (n / 65536),.int .u16 (n % 65536)] 90)) hB (heap_alloc_new wr _)
    (by intro x hx; simp at hx; omega) (by simp only [List.length_append,List.length_cons,List.length_nil]; omega)
   simp only [List.length_cons,List.length_nil,Nat.zero_add] at hcall
   have HC:=hide hcall
   clear hcall
   go_wp2_with fail
   rw [IntKind.wrap_u16]
   refine (unhide HC).mono ?_
   rintro e w1 ⟨rfl,h1,h2⟩
   have H1:=hide h1
   have H2:=hide (((Kept.refl B wr).alloc (by omega) _).trans h2)
   clear h1 h2 HC hcs hWr
   go_wp2
   go_roundw
   case rel=>exact ⟨k+1,by omega,by go_num,by rw [unhide HT,← List.append_assoc]; exact unhide H1,hK.trans (unhide H2)⟩
   case measure=>simp [intOf]; omega
  ·have e:k=ns.length:=by omega
   subst e
   rw [List.take_length] at hWr
   go_wp2
   go_end0
   exact ⟨rfl,hWr,hK⟩

set_option maxHeartbeats 1000000 in
theorem addresses_any (B bs cap:Nat) (ns:List Int) (L:List UInt8) (w:World) (hW:Wr w B L) (hb:B<bs)
  (hsrc:w.heap[bs]?=some (.cells (ns.map (Value.int .u32)).toArray 53 (0,0))) (hnr:∀ n ∈ ns,0≤n∧n≤4294967295) (hsz:L.length+4*ns.length≤1099511627776) :
  Calls Tryz.prog 194 #[.pointer (some ⟨B,0,none⟩),.slice (some ⟨bs,0,none⟩) ns.length cap] w fun e w' =>
   e=.returned (.tuple #[])∧Wr w' B (L++dwords8 ns)∧Kept B w w':=by
 have HS:=hide hsrc
 have HN:=hide hnr
 clear hsrc hnr
 go_enter Tryz.func194,Tryz.ntmps194
 go_wp2
 go_loopw [8] (fun i wr=>∃ k:Nat,k≤ns.length∧i=.int .i64 k∧Wr wr B (L++dwords8 (ns.take k))∧Kept B w wr) (fun i _=>ns.length - (intOf i).toNat)
 case atStart=>exact ⟨0,Nat.zero_le _,rfl,by simpa [dwords8] using hW,Kept.refl _ _⟩
 case round =>
  obtain ⟨k,hk,rfl,hWr,hK⟩:=hrel
  rename World=>wr
  by_cases hlt:k<ns.length
  ·have hsr:=hK.others _ _ _ _ hb (unhide HS) (by decide)
   obtain ⟨n,hn⟩:∃ n,ns[k]=n:=⟨_,rfl⟩
   obtain ⟨hn0,hn1⟩:=unhide HN ns[k] (List.getElem_mem hlt)
   rw [hn] at hn0 hn1
   have hcs:wr.cell? ⟨bs,k,none⟩=some (.int .u32 n):=by
    rw [cell_of_row wr bs k _ _ _ hsr]; simp [hlt,hn]
   have HT:=hide (dwords8_take ns k hlt)
   rw [hn] at HT
   have hlw:(dwords8 (ns.take k)).length≤4*k:=by rw [dwords8_length,List.length_take]; omega
   have hB:=hWr.lt
   clear hsr hn
   have hcall:=longs_any B wr.heap.size 1 [n] _ _ (hWr.alloc (.cells #[.int .u32 n] 50)) hB (heap_alloc_new wr _)
    (by intro x hx; simp at hx; omega) (by simp only [List.length_append,List.length_cons,List.length_nil]; omega)
   rw [show dwords8 [n]=dword8 n by simp [dwords8]] at hcall
   simp only [List.length_cons,List.length_nil,Nat.zero_add] at hcall
   have HC:=hide hcall
   clear hcall
   go_wp2_with fail
   refine (unhide HC).mono ?_
   rintro e w1 ⟨rfl,h1,h2⟩
   have H1:=hide h1
   have H2:=hide (((Kept.refl B wr).alloc (by omega) _).trans h2)
   clear h1 h2 HC hcs hWr
   go_wp2
   go_roundw
   case rel=>exact ⟨k+1,by omega,by go_num,by rw [unhide HT,← List.append_assoc]; exact unhide H1,hK.trans (unhide H2)⟩
   case measure=>simp [intOf]; omega
  ·have e:k=ns.length:=by omega
   subst e
   rw [List.take_length] at hWr
   go_wp2
   go_end0
   exact ⟨rfl,hWr,hK⟩

end Go.Proofs.YtbhbbeebncmaiaaGreatDoor.Wt
namespace Go.Proofs.YtbhbbeebncmaiaaGreatDoor.Wt
open Go.ChangeShapes Go.WideShapes Go.ChangeAt Go.RowKit Bs
set_option linter.unusedVariables false
theorem kept_new {B:Nat} {w w':World} {o:Obj} {L:List UInt8} (hW:Wr w B L) (h:Kept B (w.alloc o) w'):Kept B w w' :=
 ((Kept.refl B w).alloc (Nat.le_of_lt hW.lt) o).trans h

theorem texts_one (B bs:Nat) (s:ByteArray) (L:List UInt8) (w:World) (hW:Wr w B L) (hbs:bs=w.heap.size) (hsz:L.length+s.size≤1099511627776) :
  Calls Tryz.prog 191 #[.pointer (some ⟨B,0,none⟩),.slice (some ⟨bs,0,none⟩) 1 1] (w.alloc (.cells #[.string s] 9)) fun e w' =>
   e=.returned (.tuple #[])∧Wr w' B (L++s.data.toList)∧Kept B w w':=by
 subst hbs
 have h:=texts_any B w.heap.size 1 [s] L _ (hW.alloc (.cells #[.string s] 9)) hW.lt (heap_alloc_new w _) (by simp only [flat,List.flatMap_cons,List.flatMap_nil,List.append_nil,len_str]; exact hsz) (by simp)
 refine h.mono ?_
 rintro e w1 ⟨rfl,h1,h2⟩
 refine ⟨rfl,?_,kept_new hW h2⟩
 have e:flat [s]=s.data.toList:=by simp [flat]
 rw [← e]; exact h1

theorem words_one (B bs:Nat) (n:Int) (L:List UInt8) (w:World) (hW:Wr w B L) (hbs:bs=w.heap.size) (h0:0≤n) (h1:n≤65535) (hsz:L.length≤1099511627000) :
  Calls Tryz.prog 192 #[.pointer (some ⟨B,0,none⟩),.slice (some ⟨bs,0,none⟩) 1 1] (w.alloc (.cells #[.int .u16 n] 90)) fun e w' =>
   e=.returned (.tuple #[])∧Wr w' B (L++word8 n)∧Kept B w w':=by
 subst hbs
 have h:=words_any B w.heap.size 1 [n] L _ (hW.alloc (.cells #[.int .u16 n] 90)) hW.lt (heap_alloc_new w _) (by intro x hx; simp at hx; omega) (by simp only [List.length_cons,List.length_nil]; omega)
 refine h.mono ?_
 rintro e w1 ⟨rfl,h1,h2⟩
 refine ⟨rfl,?_,kept_new hW h2⟩
 have e:words8 [n]=word8 n:=by simp [words8]
 rw [← e]; exact h1

end Go.Proofs.YtbhbbeebncmaiaaGreatDoor.Wt
namespace Go.Proofs.YtbhbbeebncmaiaaGreatDoor.Arp
open Go.ChangeShapes Go.WideShapes Go.ChangeAt Go.RowKit Bs Rb Wt
set_option linter.unusedVariables false
theorem by8_congr {a b:Int} (h:a % 256=b % 256):by8 a=by8 b:=by simp only [by8,h]
theorem big4 (x:Int):bigL x 4=dword8 x:=by
 have e1:by8 (x / 256 / 256 / 256)=by8 (x / 65536 / 256):=by8_congr (by omega)
 have e2:by8 (x / 256 / 256)=by8 (x / 65536):=by8_congr (by omega)
 have e3:by8 (x / 256)=by8 (x % 65536 / 256):=by8_congr (by omega)
 have e4:by8 x=by8 (x % 65536):=by8_congr (by omega)
 show [by8 (x / 256 / 256 / 256),by8 (x / 256 / 256),by8 (x / 256),by8 x]=[by8 (x / 65536 / 256),by8 (x / 65536),by8 (x % 65536 / 256),by8 (x % 65536)]
 rw [e1,e2,e3,e4]

theorem big2_lit (x:Int) (w:World) (h0:0≤x) (h1:x≤9223372036854775807) :
  Calls Tryz.prog 131 #[.int .i64 x,.int .i64 2] w fun e w'=>e=.returned (.string ⟨#[by8 (x / 256),by8 x]⟩)∧Below w.heap.size w w':=big_any x 2 w h0 h1 (by omega)
theorem ip_lit (x:Int) (w:World) (h0:0≤x) (h1:x≤4294967295) :
  Calls Tryz.prog 91 #[.int .u32 x] w fun e w'=>e=.returned (.string ⟨#[by8 (x / 256 / 256 / 256),by8 (x / 256 / 256),by8 (x / 256),by8 x]⟩)∧Below w.heap.size w w':=ip_any x w h0 h1

theorem isOp_any (n:Int) (w:World) :
  Calls Tryz.prog 190 #[.int .u16 n] w fun e w'=>e=.returned (.bool (n==1 || n==2))∧w'=w:=by
 by_cases h1:(n==1)=true
 ·go_enter Tryz.func190,Tryz.ntmps190
  go_wp2
  go_ret
  exact ⟨by simp [h1],rfl⟩
 ·have h1':(n==1)=false:=by simpa using h1
  go_enter Tryz.func190,Tryz.ntmps190
  go_wp2
  go_ret
  exact ⟨by simp [h1'],rfl⟩

theorem wr_new (w:World):Wr (w.alloc (.cells #[.slice none 0 0] 240)) w.heap.size [] :=
 ⟨_,heap_alloc_new w _,World.ownsRow_nil _ _ _ _⟩
theorem below_cells {w w':World} (h:Below w.heap.size w w'):∀ b o,b<w.heap.size→w'.cell? ⟨b,o,none⟩=w.cell? ⟨b,o,none⟩:=fun b o hb=>h.cell (p:=⟨b,o,none⟩) hb
end Go.Proofs.YtbhbbeebncmaiaaGreatDoor.Arp
namespace Go.Proofs.YtbhbbeebncmaiaaGreatDoor.Eth
open Go.ChangeShapes Go.WideShapes Go.ChangeAt Go.RowKit Bs Rb Wt Arp
set_option linter.unusedVariables false
def okTy (ty:Int):Bool:=decide (1536≤ty)
def okLoad (s:ByteArray):Bool:=decide (s.size≤1500)
theorem isType_any (n:Int) (w:World) :
  Calls Tryz.prog 163 #[.int .u16 n] w fun e w'=>e=.returned (.bool (okTy n))∧w'=w:=by
 go_enter Tryz.func163,Tryz.ntmps163
 go_wp2
 go_ret
 exact ⟨rfl,rfl⟩
theorem isLoad_any (s:ByteArray) (w:World) :
  Calls Tryz.prog 166 #[.string s] w fun e w'=>e=.returned (.bool (okLoad s))∧w'=w:=by
 have e:decide ((s.size:Int)≤1500)=okLoad s:=by unfold okLoad; congr 1; simp; omega
 rw [← e]
 clear e
 go_enter Tryz.func166,Tryz.ntmps166
 go_wp2
 go_ret
 exact ⟨rfl,rfl⟩

end Go.Proofs.YtbhbbeebncmaiaaGreatDoor.Eth
