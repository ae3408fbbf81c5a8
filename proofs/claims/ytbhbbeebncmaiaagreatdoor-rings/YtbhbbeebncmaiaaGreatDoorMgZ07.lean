import Derived.Test.YtbhbbeebncmaiaaGreatDoorMgZ00
import Derived.OpenShut
import Derived.Test.YtbhbbeebncmaiaaGreatDoorMgZ01
import Derived.BigRegion
import Derived.Test.YtbhbbeebncmaiaaGreatDoorRows
import Derived.WalkKit
import Derived.ProofKit
import Derived.Laws.BitsAllLaws
import Derived.WalkSpells
import Derived.WalkLawsBesides
import Derived.Outline
import Derived.Deep.QuietTactic
import Derived.BigQuiet
import Derived.Test.YtbhbbeebncmaiaaGreatDoorMgZ09
namespace Go.Proofs.YtbhbbeebncmaiaaGreatDoor.Op
open Go.ChangeShapes Go.WideShapes Go.ChangeAt Go.RowKit Bs
set_option linter.unusedVariables false
theorem laid:laidOutB Tryz.prog=true:=by kernel_rfl
theorem own:ownKnob Tryz.prog.godebug=none:=by kernel_rfl
theorem cellsMAC:Tryz.prog.cellsOf 26=6:=by kernel_rfl
theorem cells8:Tryz.prog.cellsOf 5=1:=by kernel_rfl
theorem cellsStr:Tryz.prog.cellsOf 9=1:=by kernel_rfl

theorem byte_of {n:Int} (h:(Lit.int .u8 n).wf=true):∃ a:UInt8,n=(a.toNat:Int):=by
 have hx:0≤n∧n≤255:=by simpa [Lit.wf,IntKind.min,IntKind.max,IntKind.signed,IntKind.bits] using h
 exact ⟨UInt8.ofNat n.toNat,by simp only [UInt8.toNat_ofNat']; omega⟩
section
variable {H : Type} {enc : TypeId × Value → H} {w : World} {base : Nat} {spare : Nat → Bool} {held : Bool} {fuel : Nat}
theorem list6 (l:List Value) (h:l.length=6):∃ a b c d e f,l=[a,b,c,d,e,f]:=by
 match l,h with
 | [a,b,c,d,e,f],_=>exact ⟨a,b,c,d,e,f,rfl⟩
theorem mac_open {cs:List Value} {x:DataW H × List MemPlace} (h:DataW.trod enc Tryz.prog w base spare held fuel 26 cs=some x) :
  ∃ a b c d e f:UInt8,cs=[.int .u8 a.toNat,.int .u8 b.toNat,.int .u8 c.toNat,.int .u8 d.toNat,.int .u8 e.toNat,.int .u8 f.toNat]:=by
 obtain ⟨xs,m,_,_,hl,hx,hi⟩:=DataW.trod_array Tryz.underlying26 h
 rw [cellsMAC] at hl
 have one:∀ i (hi6:i<6),∃ a:UInt8,cs[i]?=some (.int .u8 a.toNat):=by
  intro i hi6
  have h1:=hi i hi6
  rw [cells8,Nat.mul_one,List.getElem?_eq_getElem (by omega)] at h1
  obtain ⟨n,e1,_,wn⟩:=DataW.trod_int Tryz.underlying5 h1
  obtain ⟨a,rfl⟩:=byte_of wn
  refine ⟨a,?_⟩
  have e2:=congrArg (fun l=>l[0]?) e1
  simpa using e2
 obtain ⟨c0,c1,c2,c3,c4,c5,rfl⟩:=list6 cs hl
 obtain ⟨a,ha⟩:=one 0 (by omega)
 obtain ⟨b,hb⟩:=one 1 (by omega)
 obtain ⟨c,hc⟩:=one 2 (by omega)
 obtain ⟨d,hd⟩:=one 3 (by omega)
 obtain ⟨e,he⟩:=one 4 (by omega)
 obtain ⟨f,hf⟩:=one 5 (by omega)
 simp at ha hb hc hd he hf
 subst ha hb hc hd he hf
 exact ⟨a,b,c,d,e,f,rfl⟩
end
theorem close1 {H:Type} {enc:TypeId × Value→H} {fn:Func} {s:ChangeSpec} {W W':World} {t:TypeId} {v0:Value} {d0:DataW H} {p0:List MemPlace}
  (hW:DataW.Whole enc Tryz.prog fn.params.toList s.vars false W #[v0].toList [d0] [] p0) (hp:fn.params=#[t]) (hr:fn.resultTypes=#[4]) (hv:s.vars=[])
  (hs:(s.fn H [d0]).results=[.lit (.bool true)]∧(s.fn H [d0]).args=[d0]∧(s.fn H [d0]).vars=[])
  (hread:Tryz.prog.readableRec t=true) (hrow:t<Tryz.prog.types.size)
  (h0:DataW.Trod enc Tryz.prog W 0 (fun _=>true) true t v0 d0 p0) (hb:Below W.heap.size W W') :
  s.post enc Tryz.prog fn false true false false W #[v0] (.bool true) W':=by
 have hlt:∀ x ∈ p0,x.block<W.heap.size:=fun x hx=>by simpa using hW.lt x hx
 refine ⟨[d0],[],p0,[],p0++[],[],hW,?_,?_,?_,hb.frame _,fun h=>by cases h⟩
 ·rw [List.append_nil,hs.1,hr]
  exact trodAll_cons_mk (shut_bool Tryz.underlying4 _) trodAll_mk0
 ·rw [List.append_nil,hs.2.1,hp]
  exact trodAll_cons_mk (Below.trod laid hread hrow h0 hb hlt) trodAll_mk0
 ·rw [List.append_nil,hs.2.2,hv]
  rfl
end Go.Proofs.YtbhbbeebncmaiaaGreatDoor.Op
namespace Go.Proofs.YtbhbbeebncmaiaaGreatDoor.Wt
open Go.ChangeShapes Go.WideShapes Go.ChangeAt Go.RowKit Bs
set_option linter.unusedVariables false
set_option maxHeartbeats 1000000 in
theorem bytes_any (B bs cap:Nat) (N L:List UInt8) (w:World) (hW:Wr w B L) (hb:B<bs)
  (hsrc:w.heap[bs]?=some (.cells (cells8 N).toArray 5 (0,0))) (hsz:L.length+N.length≤1099511627776) :
  Calls Tryz.prog 239 #[.pointer (some ⟨B,0,none⟩),.slice (some ⟨bs,0,none⟩) N.length cap] w fun e w' =>
   e=.returned (.tuple #[])∧Wr w' B (L++N)∧Kept B w w':=by
 obtain ⟨i0,hi,hz0,hz1,hz2⟩:=info_parts info8
 obtain ⟨v,hv,hown⟩:=hW
 have hc:=cell_of_one hv
 have hf:=free_of_one hv
 have HV:=hide hv
 have HO:=hide hown
 have hB:=lt_of_block (unhide HV)
 have HC:Hid (∀ j u,(cells8 N)[j]?=some u→w.cell? ((⟨bs,0,none⟩:Addr).add j)=some u):=hide (fun j u h=>by
  rw [add_lit',cell_of_row w bs j _ _ _ hsrc]; simpa using h)
 have HL:=hide (show (cells8 N).length=N.length*1 by rw [cells8_length]; omega)
 clear hv hown hsrc
 go_enter Tryz.func239,Tryz.ntmps239
 go_wp2_with (at_builtin; refine wpList_append_own _ rfl (.tmp 8) (.tmp 9) 55 rfl (B+1) 5 i0 (.int .u8 0) 1 1 Tryz.underlying55 hi hz0 hz1 hz2 rfl (by decide) v _ _ rfl (unhide HO) ⟨bs,0,none⟩ N.length cap (cells8 N) rfl (unhide HL) (unhide HC) (cells8_one _) ?h63 ?hby ?hba ?_)
 case h63=>simp only [maxLen]; omega
 case hby=>omega
 case hba=>omega
 ·intro v' w1 hown' hg _
  have hm:=mid (unhide HV) (unhide HO) hg
  have hc1:=cell_of_one hm
  have hf1:=free_of_one hm
  obtain ⟨s1,s2⟩:=step (N:=N) (unhide HV) (unhide HO) hown' hg
  obtain ⟨ao,nn,cp,hv'⟩:=own_shape hown'
  have S1:=hide s1
  have S2:=hide s2
  clear hown' hg hm s1 s2 hc hf
  subst hv'
  go_wp2
  go_end0
  exact ⟨rfl,unhide S1,unhide S2⟩

theorem bytes_two (B bs:Nat) (a b:Int) (L:List UInt8) (w:World) (hW:Wr w B L) (hbs:bs=w.heap.size) (ha:0≤a∧a≤255) (hb:0≤b∧b≤255) (hsz:L.length≤1099511627000) :
  Calls Tryz.prog 239 #[.pointer (some ⟨B,0,none⟩),.slice (some ⟨bs,0,none⟩) 2 2] (w.alloc (.cells #[.int .u8 a,.int .u8 b] 5)) fun e w' =>
   e=.returned (.tuple #[])∧Wr w' B (L++[by8 a,by8 b])∧Kept B w w':=by
 subst hbs
 have hcs:#[Value.int .u8 a,.int .u8 b]=(cells8 [by8 a,by8 b]).toArray:=by
  simp only [cells8,List.map_cons,List.map_nil,by8_toNat]
  rw [Int.emod_eq_of_lt ha.1 (by omega),Int.emod_eq_of_lt hb.1 (by omega)]
 have h:=bytes_any B w.heap.size 2 [by8 a,by8 b] L _ (hW.alloc (.cells #[.int .u8 a,.int .u8 b] 5)) hW.lt (by rw [hcs]; exact heap_alloc_new w _) (by simp only [List.length_cons,List.length_nil]; omega)
 refine h.mono ?_
 rintro e w1 ⟨rfl,h1,h2⟩
 exact ⟨rfl,h1,kept_new hW h2⟩

end Go.Proofs.YtbhbbeebncmaiaaGreatDoor.Wt
namespace Go.Proofs.YtbhbbeebncmaiaaGreatDoor.Chk
open Go.ChangeShapes Go.WideShapes Go.ChangeAt Go.RowKit
set_option linter.unusedVariables false
def fold (n:Int):Int:=if n=0 then 0 else 1+(n - 1) % 65535
def wsum:List UInt8→Int
 | []=>0
 | [a]=>256*(a.toNat:Int)
 | a::b::r=>256*(a.toNat:Int)+(b.toNat:Int)+wsum r

theorem fold_small (n:Int) (h0:0≤n) (h1:n≤65535):fold n=n:=by
 unfold fold; split <;> omega
theorem fold_wrap (c x r:Int) (h0:0≤c) (h2:0≤x) (h4:65536≤c+x) (hr:0≤r) :
  fold (c+x - 65535+r)=fold (c+(x+r)):=by
 unfold fold; rw [if_neg (by omega),if_neg (by omega)]; omega
theorem fold_turn (n:Int) (h:65535<n):fold (n / 65536+n % 65536)=fold n:=by
 unfold fold; rw [if_neg (by omega),if_neg (by omega)]; omega
theorem wsum_nonneg:∀ l:List UInt8,0≤wsum l
 | []=>by simp [wsum]
 | [a]=>by simp [wsum]; omega
 | a::b::r=>by have:=wsum_nonneg r; simp only [wsum]; omega
theorem drop_two (l:List UInt8) (k:Nat) (h:k+1<l.length):l.drop k=l[k]::l[k+1]::l.drop (k+2):=by
 rw [List.drop_eq_getElem_cons (by omega),List.drop_eq_getElem_cons (by omega:k+1<l.length)]
theorem drop_one (l:List UInt8) (k:Nat) (h:k+1=l.length):l.drop k=[l[k]]:=by
 rw [List.drop_eq_getElem_cons (by omega),List.drop_eq_nil_of_le (by omega)]
theorem wsum_two (l:List UInt8) (k:Nat) (h:k+1<l.length) :
  wsum (l.drop k)=256*(l[k].toNat:Int)+(l[k+1].toNat:Int)+wsum (l.drop (k+2)):=by
 rw [drop_two l k h,wsum]
theorem wsum_one (l:List UInt8) (k:Nat) (h:k+1=l.length) :
  wsum (l.drop k)=256*(l[k].toNat:Int):=by
 rw [drop_one l k h,wsum]
theorem wsum_zero (l:List UInt8) (k:Nat) (h:l.length≤k):wsum (l.drop k)=0:=by
 rw [List.drop_eq_nil_of_le h,wsum]
theorem wsum_pad:∀ l:List UInt8,l.length % 2=1→wsum (l++[0])=wsum l
 | [],h=>by simp at h
 | [a],_=>by simp [wsum]
 | a::b::r,h=>by
  have:=wsum_pad r (by simp at h; omega)
  simp only [List.cons_append,wsum]; omega
theorem hide {p:Prop} (h:p):Hid p:=h
theorem unhide {p:Prop} (h:Hid p):p:=h
theorem ret_int {k:IntKind} {a b:Int} (h:a=b):Ending.returned (.int k a)=.returned (.int k b):=by rw [h]
theorem u16_word (a b:Nat) (ha:a<256) (hb:b<256) :
  bits .or .u16 ((a:Int)*256) (b:Int)=256*(a:Int)+(b:Int):=by
 have e1:(a:Int)*256=((256*a:Nat):Int):=by omega
 rw [e1,u16_or_nat _ _ (by omega) (by omega),nat_join 8 _ _ (by omega) (by omega)]
 omega
theorem nat_not16 (a:Nat) (h:a<65536):65535 ^^^ a=65535 - a:=by
 have e:=congrArg BitVec.toNat (BitVec.xor_allOnes (x:=BitVec.ofNat 16 a))
 rw [BitVec.toNat_xor,BitVec.toNat_not,BitVec.toNat_ofNat,BitVec.toNat_allOnes] at e
 rw [Nat.mod_eq_of_lt (by omega:a<2 ^ 16)] at e
 rw [Nat.xor_comm]
 simpa using e
theorem u16_not (c:Int) (h0:0≤c) (h1:c≤65535):bits .xor .u16 IntKind.u16.max c=65535 - c:=by
 have e:IntKind.u16.max=65535:=by decide
 rw [e,u16_xor 65535 c (by omega) (by omega) h0 (by omega)]
 rw [show (65535:Int).toNat=65535 from rfl,nat_not16 c.toNat (by omega)]
 omega
theorem step_lt (c x:Int) (h0:0≤c) (h1:c≤65535) (h2:0≤x) (h3:x≤65535) (h:IntKind.u16.wrap (c+x)<x) :
  65536≤c+x∧IntKind.u16.wrap (IntKind.u16.wrap (c+x)+1)=c+x - 65535:=by
 simp only [IntKind.wrap_u16] at *; omega
theorem step_ge (c x:Int) (h0:0≤c) (h1:c≤65535) (h2:0≤x) (h3:x≤65535) (h:x≤IntKind.u16.wrap (c+x)) :
  c+x≤65535∧IntKind.u16.wrap (c+x)=c+x:=by
 simp only [IntKind.wrap_u16] at *; omega
end Go.Proofs.YtbhbbeebncmaiaaGreatDoor.Chk
namespace Go.Proofs.YtbhbbeebncmaiaaGreatDoor.Chk
set_option linter.unusedVariables false
open Go.ChangeShapes Go.WideShapes Go.ChangeAt Go.RowKit
theorem end_lt (c x r t:Int) (h0:0≤c) (h1:c≤65535) (h2:0≤x) (h3:x≤65535) (hr:0≤r) (h:IntKind.u16.wrap (c+x)<x) (hf:fold (c+(x+r))=t) :
  0≤IntKind.u16.wrap (IntKind.u16.wrap (c+x)+1)∧IntKind.u16.wrap (IntKind.u16.wrap (c+x)+1)≤65535∧fold (IntKind.u16.wrap (IntKind.u16.wrap (c+x)+1)+r)=t:=by
 obtain ⟨a,b⟩:=step_lt c x h0 h1 h2 h3 h
 rw [b]
 exact ⟨by omega,by omega,by rw [fold_wrap c x r h0 h2 a hr]; exact hf⟩
theorem end_ge (c x r t:Int) (h0:0≤c) (h1:c≤65535) (h2:0≤x) (h3:x≤65535) (h:x≤IntKind.u16.wrap (c+x)) (hf:fold (c+(x+r))=t) :
  0≤IntKind.u16.wrap (c+x)∧IntKind.u16.wrap (c+x)≤65535∧fold (IntKind.u16.wrap (c+x)+r)=t:=by
 obtain ⟨a,b⟩:=step_ge c x h0 h1 h2 h3 h
 rw [b]
 exact ⟨by omega,by omega,by rw [Int.add_assoc]; exact hf⟩

set_option maxHeartbeats 400000 in
theorem wire_check (s:ByteArray) (w:World) (hs:s.size≤1099511627776) :
  Calls Tryz.prog 240 #[.string s] w fun e w'=>e=.returned (.int .u16 (65535 - fold (wsum s.data.toList)))∧w'=w:=by
 have hlen:Hid (s.data.toList.length=s.size):=hide (by rw [Array.length_toList]; rfl)
 go_enter Tryz.func240,Tryz.ntmps240
 go_wp2
 go_loop [3,4] (fun n i=>∃ (k:Nat) (c:Int),k≤s.size+1∧0≤c∧c≤65535∧i=.int .i64 k∧n=.int .u16 c∧Hid (fold (c+wsum (s.data.toList.drop k))=fold (wsum s.data.toList))) (fun _ i=>s.size+1 - (intOf i).toNat)
 case atStart=>exact ⟨0,0,Nat.zero_le _,by omega,by omega,rfl,rfl,hide (by simp)⟩
 case round =>
  obtain ⟨k,c,hk,hc0,hc1,rfl,rfl,HF⟩:=hrel
  by_cases hlt:k<s.size
  ·by_cases hlt1:k+1<s.size
   ·have ha:s[k].toNat<256:=s[k].toNat_lt
    have hb:s[k+1].toNat<256:=s[k+1].toNat_lt
    have HW:=hide (u16_word s[k].toNat s[k+1].toNat ha hb)
    have hr:=wsum_nonneg (s.data.toList.drop (k+2))
    have HT:Hid (fold (c+(256*(s[k].toNat:Int)+(s[k+1].toNat:Int)+wsum (s.data.toList.drop (k+2))))=fold (wsum s.data.toList)):=by
     have e:=wsum_two s.data.toList k (by rw [unhide hlen]; exact hlt1)
     rw [← unhide HF,e]; rfl
    go_wp2
    ·rename_i hcmp
     rw [unhide HW] at hcmp
     obtain ⟨e1,e2,e3⟩:=end_lt c _ _ _ hc0 hc1 (by omega) (by omega) hr hcmp (unhide HT)
     go_round
     case rel=>rw [unhide HW]; exact ⟨k+2,_,by omega,e1,e2,by go_num,rfl,hide e3⟩
     case measure=>simp [intOf]; omega
    ·rename_i hcmp
     rw [unhide HW] at hcmp
     obtain ⟨e1,e2,e3⟩:=end_ge c _ _ _ hc0 hc1 (by omega) (by omega) hcmp (unhide HT)
     go_round
     case rel=>rw [unhide HW]; exact ⟨k+2,_,by omega,e1,e2,by go_num,rfl,hide e3⟩
     case measure=>simp [intOf]; omega
   ·have ha:s[k].toNat<256:=s[k].toNat_lt
    have HT:Hid (fold (c+((s[k].toNat:Int)*256+0))=fold (wsum s.data.toList)):=by
     have e:=wsum_one s.data.toList k (by rw [unhide hlen]; omega)
     rw [← unhide HF,e]; show fold _=fold _; congr 1; show _=c+256*(s[k].toNat:Int); omega
    have HZ:=hide (wsum_zero s.data.toList (k+2) (by rw [unhide hlen]; omega))
    go_wp2
    ·rename_i hcmp
     obtain ⟨e1,e2,e3⟩:=end_lt c _ _ _ hc0 hc1 (by omega) (by omega) (by omega) hcmp (unhide HT)
     go_round
     case rel=>exact ⟨k+2,_,by omega,e1,e2,by go_num,rfl,hide (by rw [unhide HZ]; exact e3)⟩
     case measure=>simp [intOf]; omega
    ·rename_i hcmp
     obtain ⟨e1,e2,e3⟩:=end_ge c _ _ _ hc0 hc1 (by omega) (by omega) hcmp (unhide HT)
     go_round
     case rel=>exact ⟨k+2,_,by omega,e1,e2,by go_num,rfl,hide (by rw [unhide HZ]; exact e3)⟩
     case measure=>simp [intOf]; omega
  ·go_wp2
   go_ret
   refine ⟨ret_int ?_,rfl⟩
   rw [u16_not c hc0 hc1,← unhide HF,wsum_zero _ _ (by rw [unhide hlen]; omega),fold_small _ (by omega) (by omega)]
   omega
end Go.Proofs.YtbhbbeebncmaiaaGreatDoor.Chk
namespace Go.Proofs.YtbhbbeebncmaiaaGreatDoor.Chk
open Go.ChangeShapes Go.WideShapes Go.ChangeAt Go.RowKit
set_option linter.unusedVariables false
theorem pad_size (s:ByteArray):(s++({ data:=#[0] }:ByteArray)).size=s.size+1:=by
 rw [ByteArray.size_append]; rfl
theorem wrap_i64 (n:Int) (h0:0≤n) (h1:n≤9223372036854775807):IntKind.i64.wrap n=n:=by
 simp [IntKind.wrap,IntKind.bits,IntKind.signed]; omega
theorem pad_list (s:ByteArray):(s++({ data:=#[0] }:ByteArray)).data.toList=s.data.toList++[0]:=by
 rw [ByteArray.data_append,Array.toList_append]

set_option maxHeartbeats 1000000 in
theorem ref_check (s:ByteArray) (w:World) (hs:s.size≤1099511627776) :
  Calls Tryz.prog 104 #[.string s] w fun e w'=>e=.returned (.int .i64 (65535 - fold (wsum s.data.toList)))∧∃ n,w'=w.drewN n:=by
 have hlen:s.data.toList.length=s.size:=by rw [Array.length_toList]; rfl
 obtain ⟨S,hS⟩:∃ S,wsum s.data.toList=S:=⟨_,rfl⟩
 rw [hS]
 by_cases hodd:s.size % 2=1
 ·have hts:=pad_size s
  have htl:=pad_list s
  have htw:wsum (s++({ data:=#[0] }:ByteArray)).data.toList=S:=by
   rw [htl,wsum_pad _ (by rw [hlen]; exact hodd),hS]
  have ho:((s.size:Int) % 2==1)=true:=by simp; omega
  have hev:(s++({ data:=#[0] }:ByteArray)).size % 2=0:=by omega
  have hsz:(s++({ data:=#[0] }:ByteArray)).size≤1099511627777:=by omega
  have HW:=hide htw
  clear htw htl hlen hS hts
  go_enter Tryz.func104,Tryz.ntmps104
  go_wp2
  generalize (s++({ data:=#[0] }:ByteArray))=t at *
  have hlen:Hid (t.data.toList.length=t.size):=hide (by rw [Array.length_toList]; rfl)
  go_loopw [3,4] (fun n i wr=>∃ (q k:Nat) (c:Int),k≤t.size∧k % 2=0∧0≤c∧c≤65535*k∧i=.int .i64 k∧n=.int .i64 c∧wr=w.drewN q∧Hid (c+wsum (t.data.toList.drop k)=S)) (fun _ i _=>t.size - (intOf i).toNat)
  case atStart=>exact ⟨0,0,0,Nat.zero_le _,rfl,by omega,by omega,rfl,rfl,rfl,hide (by simpa using unhide HW)⟩
  case round =>
   obtain ⟨q,k,c,hk,hk2,hc0,hc1,rfl,rfl,rfl,HF⟩:=hrel
   by_cases hlt:k<t.size
   ·have ha:t[k].toNat<256:=t[k].toNat_lt
    have hb:t[k+1].toNat<256:=t[k+1].toNat_lt
    have hlt1:(k:Int)+1<(t.size:Int):=by omega
    have HT:Hid (c+(256*(t[k].toNat:Int)+(t[k+1].toNat:Int))+wsum (t.data.toList.drop (k+2))=S):=by
     have e:=wsum_two t.data.toList k (by rw [unhide hlen]; omega)
     have e2:c+wsum (t.data.toList.drop k)=S:=unhide HF
     rw [e] at e2
     rw [Int.add_assoc]
     exact e2
    have q0:0≤(k:Int)+1:=by omega
    have q1:IntKind.i64.wrap ((k:Int)+1)=(k:Int)+1:=wrap_i64 _ (by omega) (by omega)
    have q2:IntKind.i64.wrap (t[k].toNat:Int)=(t[k].toNat:Int):=wrap_i64 _ (by omega) (by omega)
    have q3:IntKind.i64.wrap (256*(t[k].toNat:Int))=256*(t[k].toNat:Int):=wrap_i64 _ (by omega) (by omega)
    have q4:IntKind.i64.wrap (t[k+1].toNat:Int)=(t[k+1].toNat:Int):=wrap_i64 _ (by omega) (by omega)
    have q5:IntKind.i64.wrap (256*(t[k].toNat:Int)+(t[k+1].toNat:Int))=256*(t[k].toNat:Int)+(t[k+1].toNat:Int):=wrap_i64 _ (by omega) (by omega)
    have q6:IntKind.i64.wrap (c+(256*(t[k].toNat:Int)+(t[k+1].toNat:Int)))=c+(256*(t[k].toNat:Int)+(t[k+1].toNat:Int)):=wrap_i64 _ (by omega) (by omega)
    go_wp2
    go_quiet (fail)
    clear q1 q2 q3 q4 q5 q6
    go_wp2
    refine ⟨⟨q+nq,k+2,_,by omega,by omega,?_,?_,by go_num,rfl,rfl,HT⟩,by simp [intOf]; omega⟩
    ·omega
    ·omega
   ·have HF':Hid (fold c=fold S):=by
     have e:c+wsum (t.data.toList.drop k)=S:=unhide HF
     rw [wsum_zero _ _ (by rw [unhide hlen]; omega)] at e
     exact congrArg fold (by omega)
    have hc2:c≤72057594038000000:=by omega
    clear HF hc1 hlen HW
    go_wp2
    go_loop [3] (fun n=>∃ (c:Int),0≤c∧c≤72057594038000000∧n=.int .i64 c∧Hid (fold c=fold S)) (fun n=>(intOf n).toNat)
    case atStart=>exact ⟨c,hc0,by omega,rfl,HF'⟩
    case round =>
     clear HF'
     obtain ⟨n,hn0,hn1,rfl,HN⟩:=hrel
     by_cases hgt:65535<n
     ·have HT:=hide (fold_turn n hgt)
      go_wp2
      go_round
      case rel=>exact ⟨_,by omega,by omega,rfl,hide ((unhide HT).trans (unhide HN))⟩
      case measure=>simp [intOf]; omega
     ·go_wp2
      go_ret
      refine ⟨ret_int ?_,q,rfl⟩
      rw [← unhide HN,fold_small n hn0 (by omega)]
 ·have ho:((s.size:Int) % 2==1)=false:=by simp; omega
  have hev:s.size % 2=0:=by omega
  have hsz:s.size≤1099511627777:=by omega
  have HW:=hide hS
  clear hlen hS
  go_enter Tryz.func104,Tryz.ntmps104
  go_wp2
  rename ByteArray=>t
  have hlen:Hid (t.data.toList.length=t.size):=hide (by rw [Array.length_toList]; rfl)
  go_loopw [3,4] (fun n i wr=>∃ (q k:Nat) (c:Int),k≤t.size∧k % 2=0∧0≤c∧c≤65535*k∧i=.int .i64 k∧n=.int .i64 c∧wr=w.drewN q∧Hid (c+wsum (t.data.toList.drop k)=S)) (fun _ i _=>t.size - (intOf i).toNat)
  case atStart=>exact ⟨0,0,0,Nat.zero_le _,rfl,by omega,by omega,rfl,rfl,rfl,hide (by simpa using unhide HW)⟩
  case round =>
   obtain ⟨q,k,c,hk,hk2,hc0,hc1,rfl,rfl,rfl,HF⟩:=hrel
   by_cases hlt:k<t.size
   ·have ha:t[k].toNat<256:=t[k].toNat_lt
    have hb:t[k+1].toNat<256:=t[k+1].toNat_lt
    have hlt1:(k:Int)+1<(t.size:Int):=by omega
    have HT:Hid (c+(256*(t[k].toNat:Int)+(t[k+1].toNat:Int))+wsum (t.data.toList.drop (k+2))=S):=by
     have e:=wsum_two t.data.toList k (by rw [unhide hlen]; omega)
     have e2:c+wsum (t.data.toList.drop k)=S:=unhide HF
     rw [e] at e2
     rw [Int.add_assoc]
     exact e2
    have q0:0≤(k:Int)+1:=by omega
    have q1:IntKind.i64.wrap ((k:Int)+1)=(k:Int)+1:=wrap_i64 _ (by omega) (by omega)
    have q2:IntKind.i64.wrap (t[k].toNat:Int)=(t[k].toNat:Int):=wrap_i64 _ (by omega) (by omega)
    have q3:IntKind.i64.wrap (256*(t[k].toNat:Int))=256*(t[k].toNat:Int):=wrap_i64 _ (by omega) (by omega)
    have q4:IntKind.i64.wrap (t[k+1].toNat:Int)=(t[k+1].toNat:Int):=wrap_i64 _ (by omega) (by omega)
    have q5:IntKind.i64.wrap (256*(t[k].toNat:Int)+(t[k+1].toNat:Int))=256*(t[k].toNat:Int)+(t[k+1].toNat:Int):=wrap_i64 _ (by omega) (by omega)
    have q6:IntKind.i64.wrap (c+(256*(t[k].toNat:Int)+(t[k+1].toNat:Int)))=c+(256*(t[k].toNat:Int)+(t[k+1].toNat:Int)):=wrap_i64 _ (by omega) (by omega)
    go_wp2
    go_quiet (fail)
    clear q1 q2 q3 q4 q5 q6
    go_wp2
    refine ⟨⟨q+nq,k+2,_,by omega,by omega,?_,?_,by go_num,rfl,rfl,HT⟩,by simp [intOf]; omega⟩
    ·omega
    ·omega
   ·have HF':Hid (fold c=fold S):=by
     have e:c+wsum (t.data.toList.drop k)=S:=unhide HF
     rw [wsum_zero _ _ (by rw [unhide hlen]; omega)] at e
     exact congrArg fold (by omega)
    have hc2:c≤72057594038000000:=by omega
    clear HF hc1 hlen HW
    go_wp2
    go_loop [3] (fun n=>∃ (c:Int),0≤c∧c≤72057594038000000∧n=.int .i64 c∧Hid (fold c=fold S)) (fun n=>(intOf n).toNat)
    case atStart=>exact ⟨c,hc0,by omega,rfl,HF'⟩
    case round =>
     clear HF'
     obtain ⟨n,hn0,hn1,rfl,HN⟩:=hrel
     by_cases hgt:65535<n
     ·have HT:=hide (fold_turn n hgt)
      go_wp2
      go_round
      case rel=>exact ⟨_,by omega,by omega,rfl,hide ((unhide HT).trans (unhide HN))⟩
      case measure=>simp [intOf]; omega
     ·go_wp2
      go_ret
      refine ⟨ret_int ?_,q,rfl⟩
      rw [← unhide HN,fold_small n hn0 (by omega)]

end Go.Proofs.YtbhbbeebncmaiaaGreatDoor.Chk
namespace Go.Proofs.YtbhbbeebncmaiaaGreatDoor.Dh
set_option linter.unusedVariables false
def pieces (l:List UInt8):Option (List Pc) :=
 match l with
 | []=>none
 | c::r =>
  if c.toNat=255 then some []
  else if c.toNat=0 then pieces r
  else match r with
   | []=>none
   | n::q=>if q.length<n.toNat then none else (pieces (q.drop n.toNat)).map fun ps=>(c,q.take n.toNat)::ps
termination_by l.length
decreasing_by all_goals (simp; try omega)

theorem pieces_nil:pieces []=none:=by rw [pieces]
theorem pieces_end (c:UInt8) (r:List UInt8) (h:c.toNat=255):pieces (c::r)=some []:=by rw [pieces.eq_def]; exact if_pos h
theorem pieces_none (c:UInt8) (r:List UInt8) (h:c.toNat=0):pieces (c::r)=pieces r:=by rw [pieces.eq_def]; exact (if_neg (by omega)).trans (if_pos h)
theorem pieces_lone (c:UInt8) (h:¬ c.toNat=255) (h0:¬ c.toNat=0):pieces [c]=none:=by rw [pieces,if_neg h,if_neg h0]
theorem pieces_few (c n:UInt8) (q:List UInt8) (h:¬ c.toNat=255) (h0:¬ c.toNat=0) (hq:q.length<n.toNat):pieces (c::n::q)=none:=by rw [pieces,if_neg h,if_neg h0]; exact if_pos hq
theorem pieces_more (c n:UInt8) (q:List UInt8) (h:¬ c.toNat=255) (h0:¬ c.toNat=0) (hq:¬ q.length<n.toNat):pieces (c::n::q)=(pieces (q.drop n.toNat)).map fun ps=>(c,q.take n.toNat)::ps:=by
 rw [pieces,if_neg h,if_neg h0]; exact if_neg hq

def add (l:List Pc) (p:Pc):List Pc :=
 match l with
 | []=>[p]
 | a::r=>if a.1=p.1 then (a.1,a.2++p.2)::r else a::add r p
def addAll (l:List Pc) (ps:List Pc):List Pc:=ps.foldl add l
def has (l:List Pc) (c:UInt8):Bool:=l.any fun p=>p.1==c
def data (l:List Pc) (c:UInt8):List UInt8:=(l.filter fun p=>p.1==c).flatMap fun p=>p.2
def drop (l:List Pc) (c:UInt8):List Pc:=l.filter fun p=>p.1 != c

theorem has_add (l:List Pc) (p:Pc) (c:UInt8):has (add l p) c=(has l c || p.1==c):=by
 induction l with
 | nil=>simp [add,has]
 | cons a r ih =>
  simp only [add]
  split
  ·rename_i h
   simp only [has,List.any_cons] at ih ⊢
   rw [h]
   cases (p.1==c) <;> simp
  ·simp only [has,List.any_cons] at ih ⊢
   rw [ih,Bool.or_assoc]
theorem has_addAll (l ps:List Pc) (c:UInt8):has (addAll l ps) c=(has l c || has ps c):=by
 induction ps generalizing l with
 | nil=>simp [addAll,has]
 | cons p r ih =>
  show has (addAll (add l p) r) c=_
  rw [ih,has_add]
  simp only [has,List.any_cons,Bool.or_assoc]
def look (l:List Pc) (c:UInt8):Option (List UInt8) :=
 match l with
 | []=>none
 | a::r=>if a.1=c then some a.2 else look r c
theorem look_add (l:List Pc) (p:Pc) (c:UInt8):look (add l p) c=if p.1=c then some ((look l c).getD []++p.2) else look l c:=by
 induction l with
 | nil=>simp only [add,look]; split <;> simp
 | cons a r ih =>
  simp only [add]
  by_cases h:a.1=p.1
  ·rw [if_pos h]
   simp only [look]
   by_cases hc:p.1=c
   ·rw [if_pos (h.trans hc),if_pos hc,if_pos (h.trans hc)]; rfl
   ·rw [if_neg (fun e=>hc (h.symm.trans e)),if_neg hc,if_neg (fun e=>hc (h.symm.trans e))]
  ·rw [if_neg h]
   simp only [look]
   by_cases ha:a.1=c
   ·rw [if_pos ha,if_pos ha,if_neg (fun e=>h (ha.trans e.symm))]
   ·rw [if_neg ha,if_neg ha,ih]
theorem data_cons (p:Pc) (r:List Pc) (c:UInt8):data (p::r) c=(if p.1=c then p.2 else [])++data r c:=by
 simp only [data,List.filter_cons]
 by_cases h:p.1=c
 ·rw [if_pos h,if_pos (by simpa using h),List.flatMap_cons]
 ·rw [if_neg h,if_neg (by simpa using h),List.nil_append]
theorem has_cons (p:Pc) (r:List Pc) (c:UInt8):has (p::r) c=(p.1==c || has r c):=rfl
theorem data_no (l:List Pc) (c:UInt8) (h:has l c=false):data l c=[]:=by
 induction l with
 | nil=>rfl
 | cons p r ih =>
  rw [has_cons,Bool.or_eq_false_iff] at h
  rw [data_cons,if_neg (by simpa using h.1),ih h.2]; rfl
theorem look_addAll (l ps:List Pc) (c:UInt8):look (addAll l ps) c=if has ps c then some ((look l c).getD []++data ps c) else look l c:=by
 induction ps generalizing l with
 | nil=>rfl
 | cons p r ih =>
  show look (addAll (add l p) r) c=_
  rw [ih,look_add,has_cons,data_cons]
  by_cases h:p.1=c
  ·have h':(p.1==c)=true:=by simpa using h
   rw [if_pos h,if_pos h,h',Bool.true_or,if_pos rfl]
   cases hr:has r c
   ·simp [data_no r c hr]
   ·simp
  ·have h':(p.1==c)=false:=by simpa using h
   rw [if_neg h,if_neg h,h',Bool.false_or,List.nil_append]
theorem drop_add (l:List Pc) (p:Pc) (c:UInt8):drop (add l p) c=if p.1=c then drop l c else add (drop l c) p:=by
 induction l with
 | nil=>simp only [add,drop,List.filter_cons,List.filter_nil]; by_cases h:p.1=c <;> simp [h]
 | cons a r ih =>
  simp only [add]
  by_cases h:a.1=p.1
  ·rw [if_pos h]
   by_cases hc:p.1=c
   ·rw [if_pos hc]
    have hac:a.1=c:=h.trans hc
    simp only [drop,List.filter_cons,hac,bne_self_eq_false,Bool.false_eq_true,if_false]
   ·rw [if_neg hc]
    have hac:¬ a.1=c:=fun e=>hc (h.symm.trans e)
    have hb:(a.1 != c)=true:=by simpa using hac
    simp only [drop,List.filter_cons,hb,if_true,add,if_pos h]
  ·rw [if_neg h]
   by_cases hac:a.1=c
   ·have hb:(a.1 != c)=false:=by simpa using hac
    have hc:¬ p.1=c:=fun e=>h (hac.trans e.symm)
    rw [if_neg hc] at ih ⊢
    simp only [drop,List.filter_cons,hb] at ih ⊢
    exact ih
   ·have hb:(a.1 != c)=true:=by simpa using hac
    simp only [drop,List.filter_cons,hb,if_true] at ih ⊢
    rw [ih]
    by_cases hc:p.1=c
    ·rw [if_pos hc,if_pos hc]
    ·rw [if_neg hc,if_neg hc]
     simp only [add,if_neg h]
theorem drop_addAll (l ps:List Pc) (c:UInt8):drop (addAll l ps) c=addAll (drop l c) (drop ps c):=by
 induction ps generalizing l with
 | nil=>rfl
 | cons p r ih =>
  show drop (addAll (add l p) r) c=_
  rw [ih,drop_add]
  by_cases h:p.1=c
  ·have hb:(p.1 != c)=false:=by simpa using h
   rw [if_pos h]
   simp only [drop,List.filter_cons,hb]; rfl
  ·have hb:(p.1 != c)=true:=by simpa using h
   rw [if_neg h]
   simp only [drop,List.filter_cons,hb,if_true]; rfl
theorem drop_no (l:List Pc) (c:UInt8) (h:has l c=false):drop l c=l:=by
 simp only [drop,List.filter_eq_self]
 intro p hp
 simp only [has,List.any_eq_false] at h
 have:=h p hp
 simpa using this
theorem addAll_append (l a b:List Pc):addAll l (a++b)=addAll (addAll l a) b:=by simp [addAll]
theorem look_has (l:List Pc) (c:UInt8):(look l c).isSome=has l c:=by
 induction l with
 | nil=>rfl
 | cons a r ih =>
  rw [has_cons,look]
  by_cases h:a.1=c
  ·rw [if_pos h]; simp [h]
  ·rw [if_neg h,ih]; simp [h]

def areaD (d:List UInt8):Bool:=match d with | [x]=>decide (1≤x.toNat)&&decide (x.toNat≤3) | _=>false
def inF (d:List UInt8):Bool:=match d with | [x]=>x.toNat % 2==1 | _=>false
def inH (d:List UInt8):Bool:=match d with | [x]=>decide (2≤x.toNat) | _=>false
def moreP (f h:Bool) (file host:List UInt8):Option (List Pc) :=
 (if f then pieces file else some []).bind fun a=>(if h then pieces host else some []).bind fun b=>some (a++b)
def optK (main host file:List UInt8):Nat :=
 match pieces main with
 | none=>1
 | some ps=>if has ps 52 then (if areaD (data ps 52) then (match moreP (inF (data ps 52)) (inH (data ps 52)) file host with | none=>1 | some m=>if has m 52 then 2 else 0) else 2) else 0
def optL (main host file:List UInt8):List Pc :=
 match pieces main with
 | none=>[]
 | some ps=>if has ps 52 then (match moreP (inF (data ps 52)) (inH (data ps 52)) file host with | none=>[] | some m=>addAll [] (drop ps 52++m)) else addAll [] ps
end Go.Proofs.YtbhbbeebncmaiaaGreatDoor.Dh
namespace Go.Proofs.YtbhbbeebncmaiaaGreatDoor.Rd
open Go.ChangeShapes Go.WideShapes Go.ChangeAt Go.RowKit Bs
set_option linter.unusedVariables false
set_option maxHeartbeats 400000 in
theorem byte_ok (B:Nat) (a:UInt8) (l:List UInt8) (w:World) (h:Rdr w B (a::l)) (hs:(a::l).length≤maxLen) :
  Calls Tryz.prog 249 #[.pointer (some ⟨B,0,none⟩)] w fun e w'=>e=.returned (.int .u8 a.toNat)∧Rdr w' B l∧w.grownBy w' (some B):=by
 have HN:=hide (take_ok B (a::l) 1 w h (by simp) hs)
 have HR:=hide (h.set l)
 clear h hs
 go_enter Tryz.func249,Tryz.ntmps249
 go_wp2_with fail
 refine (unhide HN).mono ?_
 rintro e w1 ⟨rfl,rfl⟩
 have i0:∀ u,(Instr.index 9 (.string ⟨#[a]⟩) (.int .i64 0)).run Tryz.prog u=.ok (.int .u8 a.toNat) u:=fun _=>by kernel_rfl
 go_wp2
 go_ret
 exact ⟨rfl,unhide HR,grown_set _⟩

set_option maxHeartbeats 400000 in
theorem length_ok (B:Nat) (a b:UInt8) (l:List UInt8) (hd al:Int) (w:World) (h:Rdr w B (a::b::l)) (hs:(a::b::l).length≤maxLen) (h1:hd≤256*(a.toNat:Int)+(b.toNat:Int)) (h2:256*(a.toNat:Int)+(b.toNat:Int)≤al) :
  Calls Tryz.prog 248 #[.pointer (some ⟨B,0,none⟩),.int .i64 hd,.int .i64 al] w fun e w'=>e=.returned (.int .i64 (256*(a.toNat:Int)+(b.toNat:Int)))∧Rdr w' B l∧w.grownBy w' (some B):=by
 have HN:=hide (word_ok B a b l w h hs)
 have ha:=a.toNat_lt
 have hb:=b.toNat_lt
 obtain ⟨x,hx⟩:∃ x,x=256*(a.toNat:Int)+(b.toNat:Int):=⟨_,rfl⟩
 rw [← hx] at HN h1 h2 ⊢
 have hq:IntKind.i64.wrap x=x:=wrap_i64 _ (by omega) (by omega)
 clear h hs hx ha hb
 go_enter Tryz.func248,Tryz.ntmps248
 go_wp2_with fail
 refine (unhide HN).mono ?_
 rintro e w1 ⟨rfl,r1,g1⟩
 have R1:=hide r1
 have G1:=hide g1
 clear r1 g1
 go_wp2_with fail
 refine (must_if _ (by simp <;> omega) _ _).mono ?_
 rintro e w2 ⟨rfl,rfl⟩
 go_wp2_with fail
 refine (must_if _ (by simp <;> omega) _ _).mono ?_
 rintro e w3 ⟨rfl,rfl⟩
 go_wp2
 go_ret
 exact ⟨rfl,unhide R1,unhide G1⟩

set_option maxHeartbeats 400000 in
theorem length_form (B:Nat) (a b:UInt8) (l:List UInt8) (hd al:Int) (w:World) (h:Rdr w B (a::b::l)) (hs:(a::b::l).length≤maxLen) (h1:256*(a.toNat:Int)+(b.toNat:Int)<hd) :
  Calls Tryz.prog 248 #[.pointer (some ⟨B,0,none⟩),.int .i64 hd,.int .i64 al] w fun e w'=>e=.panicked (errP 2)∧w.grownBy w' (some B):=by
 have HN:=hide (word_ok B a b l w h hs)
 have ha:=a.toNat_lt
 have hb:=b.toNat_lt
 obtain ⟨x,hx⟩:∃ x,x=256*(a.toNat:Int)+(b.toNat:Int):=⟨_,rfl⟩
 rw [← hx] at HN h1
 have hq:IntKind.i64.wrap x=x:=wrap_i64 _ (by omega) (by omega)
 clear h hs hx ha hb
 go_enter Tryz.func248,Tryz.ntmps248
 go_wp2_with fail
 refine (unhide HN).mono ?_
 rintro e w1 ⟨rfl,r1,g1⟩
 have G1:=hide g1
 clear r1 g1
 go_wp2_with fail
 refine (must_else _ (by simp <;> omega) _ _).mono ?_
 rintro e w2 ⟨rfl,rfl⟩
 exact ⟨rfl,rfl,unhide G1⟩

set_option maxHeartbeats 400000 in
theorem length_short (B:Nat) (a b:UInt8) (l:List UInt8) (hd al:Int) (w:World) (h:Rdr w B (a::b::l)) (hs:(a::b::l).length≤maxLen) (h1:hd≤256*(a.toNat:Int)+(b.toNat:Int)) (h2:al<256*(a.toNat:Int)+(b.toNat:Int)) :
  Calls Tryz.prog 248 #[.pointer (some ⟨B,0,none⟩),.int .i64 hd,.int .i64 al] w fun e w'=>e=.panicked (errP 1)∧w.grownBy w' (some B):=by
 have HN:=hide (word_ok B a b l w h hs)
 have ha:=a.toNat_lt
 have hb:=b.toNat_lt
 obtain ⟨x,hx⟩:∃ x,x=256*(a.toNat:Int)+(b.toNat:Int):=⟨_,rfl⟩
 rw [← hx] at HN h1 h2
 have hq:IntKind.i64.wrap x=x:=wrap_i64 _ (by omega) (by omega)
 clear h hs hx ha hb
 go_enter Tryz.func248,Tryz.ntmps248
 go_wp2_with fail
 refine (unhide HN).mono ?_
 rintro e w1 ⟨rfl,r1,g1⟩
 have G1:=hide g1
 clear r1 g1
 go_wp2_with fail
 refine (must_if _ (by simp <;> omega) _ _).mono ?_
 rintro e w2 ⟨rfl,rfl⟩
 go_wp2_with fail
 refine (must_else _ (by simp <;> omega) _ _).mono ?_
 rintro e w3 ⟨rfl,rfl⟩
 exact ⟨rfl,rfl,unhide G1⟩

theorem and15 (x:Nat) (h:x<256):bits .and .u8 (x:Int) 15=((x % 16:Nat):Int):=by
 have:=u8_and_nat x 15 h (by omega)
 rw [show ((15:Nat):Int)=15 from rfl] at this
 rw [this,show (15:Nat)=2 ^ 4 - 1 from rfl,Nat.and_two_pow_sub_one_eq_mod]
theorem and_part (x:Nat) (h:x<65536):bits .and .u16 (x:Int) 16383=((x % 16384:Nat):Int):=by
 have:=u16_and_nat x 16383 h (by omega)
 rw [show ((16383:Nat):Int)=16383 from rfl] at this
 rw [this,show (16383:Nat)=2 ^ 14 - 1 from rfl,Nat.and_two_pow_sub_one_eq_mod]
theorem and_flag (x:Nat) (h:x<65536):bits .and .u16 (x:Int) 32768=((x / 32768*32768:Nat):Int):=by
 have:=u16_and_nat x 32768 h (by omega)
 rw [show ((32768:Nat):Int)=32768 from rfl] at this
 rw [this]
 congr 1
 apply Nat.eq_of_testBit_eq
 intro i
 rw [Nat.testBit_and,show (32768:Nat)=2 ^ 15 from rfl,Nat.testBit_two_pow]
 by_cases hx:x<2 ^ 15
 ·have e:x / 2 ^ 15=0:=Nat.div_eq_of_lt hx
  rw [e,Nat.zero_mul,Nat.zero_testBit]
  by_cases hi:15=i
  ·subst hi; rw [Nat.testBit_lt_two_pow hx]; rfl
  ·simp [hi]
 ·have e:x / 2 ^ 15=1:=by omega
  rw [e,Nat.one_mul,Nat.testBit_two_pow]
  by_cases hi:15=i
  ·subst hi
   have e2:x.testBit 15=true:=by rw [Nat.testBit_eq_decide_div_mod_eq,e]; rfl
   rw [e2]; rfl
  ·simp [hi]

theorem ipFirst_ok (B:Nat) (a b:UInt8) (l:List UInt8) (w:World) (h:Rdr w B (a::b::l)) (hs:(a::b::l).length≤maxLen) (h4:a.toNat=69) :
  Calls Tryz.prog 247 #[.pointer (some ⟨B,0,none⟩)] w fun e w'=>e=.returned (.tuple #[])∧Rdr w' B l∧w.grownBy w' (some B):=by
 have HN:=byte_ok B a (b::l) w h hs
 rw [h4] at HN
 have HN:=hide HN
 have HM:=hide (fun u hu=>byte_ok B b l u hu (by simp only [List.length_cons] at hs ⊢; omega))
 have hq:bits .and .u8 69 15=5:=by decide
 clear h hs h4
 go_enter Tryz.func247,Tryz.ntmps247
 go_wp2_with fail
 refine (unhide HN).mono ?_
 rintro e w1 ⟨rfl,r1,g1⟩
 have R1:=hide r1
 have G1:=hide g1
 clear r1 g1
 go_wp2_with fail
 refine (must_if _ (by simp) _ _).mono ?_
 rintro e w2 ⟨rfl,rfl⟩
 go_wp2_with fail
 refine (must_if _ (by simp) _ _).mono ?_
 rintro e w3 ⟨rfl,rfl⟩
 go_wp2_with fail
 refine (unhide HM _ (unhide R1)).mono ?_
 rintro e w4 ⟨rfl,r4,g4⟩
 have R4:=hide r4
 have G4:=hide g4
 clear r4 g4
 go_wp2
 go_end0
 exact ⟨rfl,unhide R4,grown_trans (unhide G1) (unhide G4)⟩

theorem ipFirst_opt (B:Nat) (a b:UInt8) (l:List UInt8) (w:World) (h:Rdr w B (a::b::l)) (hs:(a::b::l).length≤maxLen) (h4:a.toNat / 16=4) (h5:5<a.toNat % 16) :
  Calls Tryz.prog 247 #[.pointer (some ⟨B,0,none⟩)] w fun e w'=>e=.panicked (errP 4)∧w.grownBy w' (some B):=by
 have ha:=a.toNat_lt
 have hq:=and15 a.toNat ha
 obtain ⟨x,hx⟩:∃ x:Int,x=(a.toNat:Int):=⟨_,rfl⟩
 obtain ⟨y,hy⟩:∃ y:Int,y=((a.toNat % 16:Nat):Int):=⟨_,rfl⟩
 have HN:=byte_ok B a (b::l) w h hs
 rw [← hx] at HN hq
 rw [← hy] at hq
 have HN:=hide HN
 have hx4:x / 16=4:=by omega
 have hy5:5<y:=by omega
 clear h hs h4 h5 hx hy ha
 go_enter Tryz.func247,Tryz.ntmps247
 go_wp2_with fail
 refine (unhide HN).mono ?_
 rintro e w1 ⟨rfl,r1,g1⟩
 have G1:=hide g1
 clear r1 g1
 go_wp2_with fail
 refine (must_if _ (by simp <;> omega) _ _).mono ?_
 rintro e w2 ⟨rfl,rfl⟩
 go_wp2_with fail
 refine (must_else _ (by simp <;> omega) _ _).mono ?_
 rintro e w3 ⟨rfl,rfl⟩
 exact ⟨rfl,rfl,unhide G1⟩

theorem ipFirst_ver (B:Nat) (a b:UInt8) (l:List UInt8) (w:World) (h:Rdr w B (a::b::l)) (hs:(a::b::l).length≤maxLen) (h4:a.toNat / 16≠4) :
  Calls Tryz.prog 247 #[.pointer (some ⟨B,0,none⟩)] w fun e w'=>e=.panicked (errP 2)∧w.grownBy w' (some B):=by
 have ha:=a.toNat_lt
 have hq:=and15 a.toNat ha
 obtain ⟨x,hx⟩:∃ x:Int,x=(a.toNat:Int):=⟨_,rfl⟩
 obtain ⟨y,hy⟩:∃ y:Int,y=((a.toNat % 16:Nat):Int):=⟨_,rfl⟩
 have HN:=byte_ok B a (b::l) w h hs
 rw [← hx] at HN hq
 rw [← hy] at hq
 have HN:=hide HN
 have hx4:(x / 16==4)=false:=by simp; omega
 clear h hs h4 hx hy ha
 go_enter Tryz.func247,Tryz.ntmps247
 go_wp2_with fail
 refine (unhide HN).mono ?_
 rintro e w1 ⟨rfl,r1,g1⟩
 have G1:=hide g1
 clear r1 g1
 go_wp2_with fail
 refine (must_else _ (by simp) _ _).mono ?_
 rintro e w2 ⟨rfl,rfl⟩
 exact ⟨rfl,rfl,unhide G1⟩

theorem ipFirst_few (B:Nat) (a b:UInt8) (l:List UInt8) (w:World) (h:Rdr w B (a::b::l)) (hs:(a::b::l).length≤maxLen) (h4:a.toNat / 16=4) (h5:a.toNat % 16<5) :
  Calls Tryz.prog 247 #[.pointer (some ⟨B,0,none⟩)] w fun e w'=>e=.panicked (errP 2)∧w.grownBy w' (some B):=by
 have ha:=a.toNat_lt
 have hq:=and15 a.toNat ha
 obtain ⟨x,hx⟩:∃ x:Int,x=(a.toNat:Int):=⟨_,rfl⟩
 obtain ⟨y,hy⟩:∃ y:Int,y=((a.toNat % 16:Nat):Int):=⟨_,rfl⟩
 have HN:=byte_ok B a (b::l) w h hs
 rw [← hx] at HN hq
 rw [← hy] at hq
 have HN:=hide HN
 have hx4:x / 16=4:=by omega
 have hy5:y<5:=by omega
 clear h hs h4 h5 hx hy ha
 go_enter Tryz.func247,Tryz.ntmps247
 go_wp2_with fail
 refine (unhide HN).mono ?_
 rintro e w1 ⟨rfl,r1,g1⟩
 have G1:=hide g1
 clear r1 g1
 go_wp2_with fail
 refine (must_else _ (by simp <;> omega) _ _).mono ?_
 rintro e w2 ⟨rfl,rfl⟩
 exact ⟨rfl,rfl,unhide G1⟩
end Go.Proofs.YtbhbbeebncmaiaaGreatDoor.Rd
namespace Go.Proofs.YtbhbbeebncmaiaaGreatDoor.Rr
open Go.ChangeShapes Go.WideShapes Go.ChangeAt Go.RowKit Bs Rd
set_option linter.unusedVariables false
def ofL (l:List UInt8):Int:=l.foldl (fun n b=>256*n+(b.toNat:Int)) 0
theorem ofL_snoc (l:List UInt8) (b:UInt8):ofL (l++[b])=256*ofL l+(b.toNat:Int):=by simp [ofL]
theorem ofL_nonneg (l:List UInt8):0≤ofL l:=by
 suffices h:∀ (l:List UInt8) (n:Int),0≤n→0≤l.foldl (fun n b=>256*n+(b.toNat:Int)) n from h l 0 (by omega)
 intro l
 induction l with
 | nil=>intro n h; simpa using h
 | cons b r ih=>intro n h; exact ih (256*n+(b.toNat:Int)) (by omega)
theorem ofL_lt (l:List UInt8):ofL l<256 ^ l.length:=by
 suffices h:∀ (l:List UInt8) (n c:Int),n<c→l.foldl (fun n b=>256*n+(b.toNat:Int)) n<c*256 ^ l.length by
  have:=h l 0 1 (by omega)
  simpa [ofL] using this
 intro l
 induction l with
 | nil=>intro n c h; simpa using h
 | cons b r ih =>
  intro n c h
  have hb:=b.toNat_lt
  have:=ih (256*n+(b.toNat:Int)) (c*256) (by omega)
  rw [List.foldl_cons,List.length_cons,Int.pow_succ']
  rw [← Int.mul_assoc]
  exact this
theorem ofL_small (l:List UInt8) (k:Nat) (hk:k≤4) (hl:l.length≤4):ofL (l.take k)<4294967296:=by
 have h:=ofL_lt (l.take k)
 have e:(256:Int) ^ (l.take k).length≤256 ^ 4:=by
  have:(l.take k).length≤4:=by rw [List.length_take]; omega
  generalize (l.take k).length=n at this
  match n,this with
  | 0,_=>decide
  | 1,_=>decide
  | 2,_=>decide
  | 3,_=>decide
  | 4,_=>decide
 omega

theorem take_snoc (s:ByteArray) (k:Nat) (h:k<s.size):s.data.toList.take (k+1)=s.data.toList.take k++[s[k]]:=by
 rw [List.take_succ_eq_append_getElem (by simpa using h)]; rfl

set_option maxHeartbeats 400000 in
theorem of_any (s:ByteArray) (w:World) (hs:s.size≤4) :
  Calls Tryz.prog 102 #[.string s] w fun e w'=>e=.returned (.int .i64 (ofL s.data.toList))∧w'=w:=by
 go_enter Tryz.func102,Tryz.ntmps102
 go_wp2
 go_loop [3,4] (fun n i=>∃ k:Nat,k≤s.size∧i=.int .i64 k∧n=.int .i64 (ofL (s.data.toList.take k))) (fun _ i=>s.size - (intOf i).toNat)
 case atStart=>exact ⟨0,Nat.zero_le _,rfl,rfl⟩
 case round =>
  obtain ⟨k,hk,rfl,rfl⟩:=hrel
  have h0:=ofL_nonneg (s.data.toList.take k)
  have h1:=ofL_small s.data.toList k (by omega) (by rw [len_str]; exact hs)
  by_cases hlt:k<s.size
  ·have HS:Hid (ofL (s.data.toList.take (k+1))=256*ofL (s.data.toList.take k)+(s[k].toNat:Int)):=hide (by rw [take_snoc s k hlt]; exact ofL_snoc _ _)
   have hb:s[k].toNat<256:=s[k].toNat_lt
   go_wp2
   go_round
   case rel=>exact ⟨k+1,by omega,by go_num,by rw [unhide HS]⟩
   case measure=>simp [intOf]; omega
  ·go_wp2
   go_ret
   exact ⟨ret_int (by rw [List.take_of_length_le (by rw [len_str]; omega)]),rfl⟩

set_option maxHeartbeats 1000000 in
theorem macOf_all (a b c d e f:UInt8) (r:List UInt8) (w:World) :
  Calls Tryz.prog 101 #[.string ⟨(a::b::c::d::e::f::r).toArray⟩] w fun ee w'=>ee=.returned (.agg #[.int .u8 a.toNat,.int .u8 b.toNat,.int .u8 c.toNat,.int .u8 d.toNat,.int .u8 e.toNat,.int .u8 f.toNat])∧Below w.heap.size w w':=by
 obtain ⟨s,hS⟩:∃ s:ByteArray,s=⟨(a::b::c::d::e::f::r).toArray⟩:=⟨_,rfl⟩
 have i0:∀ u,(Instr.index 9 (.string s) (.int .i64 0)).run Tryz.prog u=.ok (.int .u8 a.toNat) u:=fun _=>by rw [hS]; kernel_rfl
 have i1:∀ u,(Instr.index 9 (.string s) (.int .i64 1)).run Tryz.prog u=.ok (.int .u8 b.toNat) u:=fun _=>by rw [hS]; kernel_rfl
 have i2:∀ u,(Instr.index 9 (.string s) (.int .i64 2)).run Tryz.prog u=.ok (.int .u8 c.toNat) u:=fun _=>by rw [hS]; kernel_rfl
 have i3:∀ u,(Instr.index 9 (.string s) (.int .i64 3)).run Tryz.prog u=.ok (.int .u8 d.toNat) u:=fun _=>by rw [hS]; kernel_rfl
 have i4:∀ u,(Instr.index 9 (.string s) (.int .i64 4)).run Tryz.prog u=.ok (.int .u8 e.toNat) u:=fun _=>by rw [hS]; kernel_rfl
 have i5:∀ u,(Instr.index 9 (.string s) (.int .i64 5)).run Tryz.prog u=.ok (.int .u8 f.toNat) u:=fun _=>by rw [hS]; kernel_rfl
 rw [← hS]
 clear hS
 go_enter Tryz.func101,Tryz.ntmps101
 go_wp2
 refine wp_loop_rounds 7 ?_
 rw [rounds_succ]
 go_wp2
 iterate 5 (rw [rounds_succ]; go_wp2)
 rw [rounds_succ]
 go_wp2
 exact bodyPost_ret (v:=.agg #[.int .u8 a.toNat,.int .u8 b.toNat,.int .u8 c.toNat,.int .u8 d.toNat,.int .u8 e.toNat,.int .u8 f.toNat]) (by simp [results,Tryz.results101,go_sem]) rfl ⟨rfl,((Below.refl _ _).alloc (Nat.le_refl _) _).alloc (by simp) _⟩
theorem macOf_any (a b c d e f:UInt8) (r:List UInt8) (w:World) (_hs:r.length≤1099511627776) :
  Calls Tryz.prog 101 #[.string ⟨(a::b::c::d::e::f::r).toArray⟩] w fun ee w'=>ee=.returned (.agg #[.int .u8 a.toNat,.int .u8 b.toNat,.int .u8 c.toNat,.int .u8 d.toNat,.int .u8 e.toNat,.int .u8 f.toNat])∧Below w.heap.size w w':=macOf_all a b c d e f r w
end Go.Proofs.YtbhbbeebncmaiaaGreatDoor.Rr
