import Derived.Test.YtbhbbeebncmaiaaGreatDoorMgZ07
import Derived.Test.YtbhbbeebncmaiaaGreatDoorMgZ01
namespace Go.Proofs.YtbhbbeebncmaiaaGreatDoor.Ip
open Go.ChangeShapes Go.WideShapes Go.ChangeAt Go.RowKit Bs Wt Arp
set_option linter.unusedVariables false
theorem addresses_two (B bs:Nat) (x y:Int) (L:List UInt8) (w:World) (hW:Wr w B L) (hbs:bs=w.heap.size) (hx:0≤x∧x≤4294967295) (hy:0≤y∧y≤4294967295) (hsz:L.length≤1099511627000) :
  Calls Tryz.prog 194 #[.pointer (some ⟨B,0,none⟩),.slice (some ⟨bs,0,none⟩) 2 2] (w.alloc (.cells #[.int .u32 x,.int .u32 y] 53)) fun e w' =>
   e=.returned (.tuple #[])∧Wr w' B (L++(dword8 x++dword8 y))∧Kept B w w':=by
 subst hbs
 have h:=addresses_any B w.heap.size 2 [x,y] L _ (hW.alloc (.cells #[.int .u32 x,.int .u32 y] 53)) hW.lt (heap_alloc_new w _) (by intro x hx; simp at hx; omega) (by simp only [List.length_cons,List.length_nil]; omega)
 refine h.mono ?_
 rintro e w1 ⟨rfl,h1,h2⟩
 refine ⟨rfl,?_,kept_new hW h2⟩
 have e:dwords8 [x,y]=dword8 x++dword8 y:=by simp [dwords8]
 rw [← e]; exact h1

def chk (l:List UInt8):Int:=65535 - Chk.fold (Chk.wsum l)
end Go.Proofs.YtbhbbeebncmaiaaGreatDoor.Ip
namespace Go.Proofs.YtbhbbeebncmaiaaGreatDoor.Ud
open Go.ChangeShapes Go.WideShapes Go.ChangeAt Go.RowKit Bs Wt Arp
open Ip (chk addresses_two)
set_option linter.unusedVariables false
def udpP (fr ta n:Int):List UInt8:=dword8 fr++dword8 ta++[0,17]++word8 n
theorem udpP_length (fr ta n:Int):(udpP fr ta n).length=12:=rfl

set_option maxHeartbeats 1000000 in
theorem udpCheck_any (s:ByteArray) (fr ta:Int) (w:World) (hs:s.size≤65535) (hf:0≤fr∧fr≤4294967295) (ho:0≤ta∧ta≤4294967295) :
  Calls Tryz.prog 237 #[.string s,.int .u32 fr,.int .u32 ta] w fun ee w' =>
   ee=.returned (.int .u16 (chk (udpP fr ta s.size++s.data.toList)))∧Below w.heap.size w w':=by
 have hq2:IntKind.u16.wrap (s.size:Int)=(s.size:Int):=by rw [IntKind.wrap_u16]; omega
 have HN:=hide (wr_new w)
 have hls:=len_str s
 go_enter Tryz.func237,Tryz.ntmps237
 go_wp2_with fail
 refine (addresses_two _ _ fr ta _ _ (unhide HN) (by simp) hf ho (by simp)).mono ?_
 rintro ee w1 ⟨rfl,k1,q1⟩
 have K1:=hide k1
 have Q1:=hide q1
 clear k1 q1
 go_wp2_with fail
 refine (bytes_two _ _ 0 17 _ _ (unhide K1) rfl (by omega) (by omega) (by simp [dword8,words8,word8])).mono ?_
 rintro ee w2 ⟨rfl,k2,q2⟩
 have K2:=hide k2
 have Q2:=hide q2
 clear k2 q2
 go_wp2_with fail
 refine (words_one _ _ _ _ _ (unhide K2) rfl (by omega) (by omega) (by simp [dword8,words8,word8])).mono ?_
 rintro ee w3 ⟨rfl,k3,q3⟩
 have K3:=hide k3
 have Q3:=hide q3
 clear k3 q3
 go_wp2_with fail
 refine (texts_one _ _ s _ _ (unhide K3) rfl (by simp [dword8,words8,word8]; omega)).mono ?_
 rintro ee w4 ⟨rfl,k4,q4⟩
 obtain ⟨LL,hLL⟩:∃ LL,LL=udpP fr ta s.size++s.data.toList:=⟨_,rfl⟩
 have k4':Wr w4 w.heap.size LL:=by rw [hLL]; exact k4
 have hlen:LL.length=12+s.size:=by rw [hLL,List.length_append,udpP_length,hls]
 have HLL:=hide hLL
 have K4:=hide k4'
 have Q4:=hide q4
 clear k4 q4 k4' hLL
 have HC:=fun u=>hide (Chk.wire_check ⟨LL.toArray⟩ u (by show LL.toArray.size≤_; simp; omega))
 go_wp2_with fail
 refine (text_any _ _ _ (unhide K4)).mono ?_
 rintro ee w5 ⟨rfl,rfl⟩
 go_wp2_with fail
 refine (unhide (HC _)).mono ?_
 rintro ee w6 ⟨rfl,rfl⟩
 go_wp2
 go_ret
 refine ⟨ret_int (by rw [← unhide HLL]; simp [chk]),?_⟩
 have q:=((((unhide Q1).trans (unhide Q2)).trans (unhide Q3)).trans (unhide Q4)).below
 exact ((Below.refl w.heap.size w).alloc (Nat.le_refl _) _).trans q

end Go.Proofs.YtbhbbeebncmaiaaGreatDoor.Ud
