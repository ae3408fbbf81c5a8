import Derived.Test.YtbhbbeebncmaiaaGreatDoorMgZ07
import Derived.Test.YtbhbbeebncmaiaaGreatDoorMgZ09
import Derived.Test.YtbhbbeebncmaiaaGreatDoorMgZ29
import Derived.LoopN
import Derived.Laws.EntriesVeiled
import Derived.Handy
import Derived.Test.YtbhbbeebncmaiaaGreatDoorMgZ48
namespace Go.Proofs.YtbhbbeebncmaiaaGreatDoor.Tf
open Go.ChangeShapes Go.WideShapes Go.ChangeAt Go.RowKit Bs
set_option linter.unusedVariables false
set_option linter.unusedSimpArgs false
theorem str_size (l:List UInt8):(⟨l.toArray⟩:ByteArray).size=l.length:=by show l.toArray.size=_; simp
theorem idx_get (s:ByteArray) (l:List UInt8) (hsl:s.data.toList=l) (k:Nat) (hk:k<l.length) (u:World):(Instr.index 9 (.string s) (.int .i64 (k:Int))).run Tryz.prog u=.ok (.int .u8 (l.getD k 0).toNat) u:=by
 have hz:s.size=l.length:=by rw [← hsl,Array.length_toList]; rfl
 have h2:(k:Int)<(s.size:Int):=by omega
 have hk':k<s.size:=by omega
 have h3:s[k]=l.getD k 0:=by
  have hk2:k<s.data.size:=hk'
  have q:s.data[k]?=l[k]?:=by rw [← hsl,Array.getElem?_toList]
  rw [Array.getElem?_eq_getElem hk2,List.getElem?_eq_getElem hk] at q
  rw [List.getD_eq_getElem?_getD,List.getElem?_eq_getElem hk]
  exact Option.some.inj q
 simp [Instr.index,run_underlying Tryz.underlying9,asIntOf,h2,hk',go_sem,h3]
theorem all_take {l:List UInt8} {k:Nat} (h:k<l.length) (h0:(l.take k).all okC=true) (h1:okC (l.getD k 0)=true):(l.take (k+1)).all okC=true:=by
 rw [List.take_succ_eq_append_getElem h,List.all_append,h0]
 rw [List.getD_eq_getElem?_getD,List.getElem?_eq_getElem h] at h1
 simpa using h1
theorem all_bad {l:List UInt8} {k:Nat} (h:k<l.length) (h1:okC (l.getD k 0)=false):nameB l=false:=by
 rw [List.getD_eq_getElem?_getD,List.getElem?_eq_getElem h] at h1
 unfold nameB
 have:l.all okC=false:=by
  rw [← Bool.not_eq_true,List.all_eq_true]
  intro hh
  have:=hh l[k] (List.getElem_mem h)
  simp at h1
  rw [h1] at this; cases this
 rw [this,Bool.and_false]
theorem empty_str (s:ByteArray) (l:List UInt8) (hsl:s.data.toList=l):s.toList.isEmpty=l.isEmpty:=by rw [ByteArray.toList_eq,hsl]

set_option maxHeartbeats 1000000 in
theorem isName_any (s:ByteArray) (l:List UInt8) (w:World) (hsl:s.data.toList=l) (hl:l.length≤9223372036854775807) :
  Calls Tryz.prog 76 #[.string s] w fun e w'=>e=.returned (.bool (nameB l))∧w'=w:=by
 have hz:s.size=l.length:=by rw [← hsl,Array.length_toList]; rfl
 have hie:=empty_str s l hsl
 have HIX:=hide (fun k hk u=>idx_get s l hsl k hk u)
 have HZ:=hide hz
 clear hsl hz
 go_enter Tryz.func76,Tryz.ntmps76
 go_wp2
 go_loop [6] (fun i=>∃ k:Nat,k≤l.length∧i=.int .i64 k∧Hid ((l.take k).all okC=true)) (fun i=>l.length - (intOf i).toNat)
 case atStart=>exact ⟨0,Nat.zero_le _,rfl,hide rfl⟩
 case round =>
  obtain ⟨k,hk,rfl,HA⟩:=hrel
  have hz:=unhide HZ
  by_cases hlt:k<l.length
  ·have x0:=unhide HIX k hlt
   have hlt':(k:Int)<(s.size:Int):=by omega
   have l0:=(l.getD k 0).toNat_lt
   have hcd:okC (l.getD k 0)=decide (33≤(l.getD k 0).toNat∧(l.getD k 0).toNat≤126):=rfl
   have HBAD:=hide (fun h=>all_bad (l:=l) hlt h)
   have HOK:=hide (fun h=>all_take (l:=l) hlt (unhide HA) h)
   obtain ⟨c,hc⟩:∃ c,c=l.getD k 0:=⟨_,rfl⟩
   rw [← hc] at x0 l0 hcd HBAD HOK
   obtain ⟨y,hy⟩:∃ y:Nat,y=c.toNat:=⟨_,rfl⟩
   rw [← hy] at x0 l0 hcd
   have HC:=hide hcd
   clear hc hcd hz
   by_cases h33:y<33
   ·have g0:(y:Int)<33:=by omega
    have HN:Hid (nameB l=false):=hide (unhide HBAD (by rw [unhide HC,decide_eq_false_iff_not]; omega))
    clear HBAD HOK hy
    go_wp2
    go_ret
    exact ⟨by rw [unhide HN]; rfl,rfl⟩
   ·have g0:¬ (y:Int)<33:=by omega
    by_cases h126:126<y
    ·have g1:(126:Int)<(y:Int):=by omega
     have HN:Hid (nameB l=false):=hide (unhide HBAD (by rw [unhide HC,decide_eq_false_iff_not]; omega))
     clear HBAD HOK hy
     go_wp2
     go_ret
     exact ⟨by rw [unhide HN]; rfl,rfl⟩
    ·have g1:¬ (126:Int)<(y:Int):=by omega
     have HN:Hid ((l.take (k+1)).all okC=true):=hide (unhide HOK (by rw [unhide HC,decide_eq_true_eq]; omega))
     clear HBAD HOK hy
     go_wp2
     go_round
     case rel=>exact ⟨k+1,by omega,by go_num,HN⟩
     case measure=>simp [intOf]; omega
  ·have hlt':¬ (k:Int)<(s.size:Int):=by omega
   have HN:Hid (nameB l=!l.isEmpty):=hide (by
    have q:=unhide HA
    rw [List.take_of_length_le (by omega)] at q
    unfold nameB; rw [q,Bool.and_true])
   clear hz
   go_wp2
   go_ret
   exact ⟨by rw [unhide HN]; rfl,rfl⟩

end Go.Proofs.YtbhbbeebncmaiaaGreatDoor.Tf
namespace Go.Proofs.YtbhbbeebncmaiaaGreatDoor.Mac
open Go.ChangeShapes Go.WideShapes Go.ChangeAt Go.RowKit Bs
set_option linter.unusedVariables false
set_option linter.unusedSimpArgs false
variable {w0 : World} {P : Nat → Prop} {w w' : World} {B Q : Nat} {m m' : Mc}
theorem arpCame_dull (h:Mx w0 P w B m) (hst:m.st<4) (hn3:m.st≠3) (hcd:m.cd=.map []) (load:ByteArray) (op f0 f1 f2 f3 f4 f5 fip t0 t1 t2 t3 t4 t5 tip k:Int)
  (hR:∀ u,Calls Tryz.prog 167 #[.string load] u fun e w'=>e=.returned (.tuple #[.agg #[.int .u16 op,.int .u8 f0,.int .u8 f1,.int .u8 f2,.int .u8 f3,.int .u8 f4,.int .u8 f5,.int .u32 fip,.int .u8 t0,.int .u8 t1,.int .u8 t2,.int .u8 t3,.int .u8 t4,.int .u8 t5,.int .u32 tip],.int .i64 k])∧Below u.heap.size u w') :
  Calls Tryz.prog 140 #[.pointer (some ⟨B,0,none⟩),.string load] w fun ee w'=>ee=.returned (.tuple #[])∧Mx w0 P w' B m:=by
 have HR:=hide (hR w)
 have HM:=hide h
 clear hR h
 go_enter Tryz.func140,Tryz.ntmps140
 go_wp2_with fail
 refine (unhide HR).mono ?_
 rintro ee u1 ⟨rfl,hb1⟩
 have HNF:¬ Foot B m u1.heap.size:=fun hf=>Nat.lt_irrefl _ (((unhide HM).below hb1).foot_lt hf)
 have HM1:=hide (((unhide HM).below hb1).alloc (.cells #[.int .u16 op,.int .u8 f0,.int .u8 f1,.int .u8 f2,.int .u8 f3,.int .u8 f4,.int .u8 f5,.int .u32 fip,.int .u8 t0,.int .u8 t1,.int .u8 t2,.int .u8 t3,.int .u8 t4,.int .u8 t5,.int .u32 tip] 115))
 clear hb1 HR HM
 by_cases hk:k=0
 ·subst hk
  have HR1:Hid ((u1.alloc (.cells #[.int .u16 op,.int .u8 f0,.int .u8 f1,.int .u8 f2,.int .u8 f3,.int .u8 f4,.int .u8 f5,.int .u32 fip,.int .u8 t0,.int .u8 t1,.int .u8 t2,.int .u8 t3,.int .u8 t4,.int .u8 t5,.int .u32 tip] 115)).heap[u1.heap.size]?=some (.cells #[.int .u16 op,.int .u8 f0,.int .u8 f1,.int .u8 f2,.int .u8 f3,.int .u8 f4,.int .u8 f5,.int .u32 fip,.int .u8 t0,.int .u8 t1,.int .u8 t2,.int .u8 t3,.int .u8 t4,.int .u8 t5,.int .u32 tip] 115 (0,0))):=hide (heap_alloc_new u1 _)
  have HC1:=hide (isTaken_no (unhide HM1) hn3 op f0 f1 f2 f3 f4 f5 fip t0 t1 t2 t3 t4 t5 tip)
  go_wp2_with fail
  refine (unhide HC1).mono ?_
  rintro ee u2 ⟨rfl,hb2⟩
  have HM2:=hide ((unhide HM1).below hb2)
  have HR2:=hide ((hb2.block u1.heap.size (lt_of_block' (unhide HR1))).trans (unhide HR1))
  clear hb2 HC1 HM1 HR1
  obtain ⟨x0,x1,x2,x3,x4,x5,x6,x7,x8,x9,x10,x11,x12,x13,x14⟩:=row15 (unhide HR2)
  have HC2:=hide (learn_none (unhide HM2).base hst hcd op f0 f1 f2 f3 f4 f5 fip t0 t1 t2 t3 t4 t5 tip)
  go_wp2_with fail
  refine (unhide HC2).mono ?_
  rintro ee u3 ⟨rfl,hk3⟩
  have HM3:=hide ((unhide HM2).join hk3)
  have HR3:=hide ((hk3.kept u1.heap.size (lt_of_block' (unhide HR2)) HNF).trans (unhide HR2))
  clear hk3 HC2 HM2 HR2 x0 x1 x2 x3 x4 x5 x6 x7 x8 x9 x10 x11 x12 x13 x14
  obtain ⟨x0,x1,x2,x3,x4,x5,x6,x7,x8,x9,x10,x11,x12,x13,x14⟩:=row15 (unhide HR3)
  have HC3:=hide (isAsked_no (unhide HM3) hst op f0 f1 f2 f3 f4 f5 fip t0 t1 t2 t3 t4 t5 tip)
  go_wp2_with fail
  refine (unhide HC3).mono ?_
  rintro ee u4 ⟨rfl,hb4⟩
  have HM4:=hide ((unhide HM3).below hb4)
  clear hb4 HC3 HM3 HR3
  go_wp2
  go_returns
  exact ⟨rfl,unhide HM4⟩
 ·have hkk:(k != 0)=true:=by simpa using hk
  go_wp2
  go_returns
  exact ⟨rfl,unhide HM1⟩
end Go.Proofs.YtbhbbeebncmaiaaGreatDoor.Mac
namespace Go.Proofs.YtbhbbeebncmaiaaGreatDoor.Mac
open Go.ChangeShapes Go.WideShapes Go.ChangeAt Go.RowKit Bs
set_option linter.unusedVariables false
set_option linter.unusedSimpArgs false
variable {w0 : World} {P : Nat → Prop} {w w' : World} {B Q : Nat} {m m' : Mc}
theorem row6 {u:World} {g:Nat} {t:TypeId} {a0 a1 a2 a3 a4 a5:Value} (h:u.heap[g]?=some (.cells #[a0,a1,a2,a3,a4,a5] t (0,0))) :
  u.cell? ⟨g,0,none⟩=some a0∧u.cell? ⟨g,1,none⟩=some a1∧u.cell? ⟨g,2,none⟩=some a2∧u.cell? ⟨g,3,none⟩=some a3∧u.cell? ⟨g,4,none⟩=some a4∧u.cell? ⟨g,5,none⟩=some a5:=by
 have q:=fun j=>cell_of_row u g j _ _ _ h
 exact ⟨q 0,q 1,q 2,q 3,q 4,q 5⟩
theorem tftpCame_dull (h:Mx w0 P w B m) (hf:m.fetching=false) (id ttl pr fr ta:Int) (ld:ByteArray) (f t:Int) (ld2:ByteArray) :
  Calls Tryz.prog 176 #[.pointer (some ⟨B,0,none⟩),.agg #[.int .u16 id,.int .u8 ttl,.int .u8 pr,.int .u32 fr,.int .u32 ta,.string ld],.agg #[.int .u16 f,.int .u16 t,.string ld2]] w fun ee w'=>ee=.returned (.tuple #[])∧Mx w0 P w' B m:=by
 have HM:=hide ((h.alloc (.cells #[.int .u16 id,.int .u8 ttl,.int .u8 pr,.int .u32 fr,.int .u32 ta,.string ld] 120)).alloc (.cells #[.int .u16 f,.int .u16 t,.string ld2] 98))
 have HF:Hid (∀ n,Calls Tryz.prog 87 #[.pointer (some ⟨B,0,none⟩)] (((w.alloc (.cells #[.int .u16 id,.int .u8 ttl,.int .u8 pr,.int .u32 fr,.int .u32 ta,.string ld] 120)).alloc (.cells #[.int .u16 f,.int .u16 t,.string ld2] 98)).drewN n) fun e w'=>e=.returned (.bool false)∧w'=((w.alloc (.cells #[.int .u16 id,.int .u8 ttl,.int .u8 pr,.int .u32 fr,.int .u32 ta,.string ld] 120)).alloc (.cells #[.int .u16 f,.int .u16 t,.string ld2] 98)).drewN n):=hide (fun n=>by
  have q:=isFetching_any ((unhide HM).like (w':=((w.alloc (.cells #[.int .u16 id,.int .u8 ttl,.int .u8 pr,.int .u32 fr,.int .u32 ta,.string ld] 120)).alloc (.cells #[.int .u16 f,.int .u16 t,.string ld2] 98)).drewN n) ⟨rfl,rfl,rfl,rfl⟩)
  rw [hf] at q
  exact q)
 clear h
 go_enter Tryz.func176,Tryz.ntmps176
 go_wp2
 go_quiet (first | (go_at_call 87; exact Calls.quiet_of_same (unhide HF _)))
 go_wp2
 go_returns
 exact ⟨rfl,(unhide HM).like ⟨rfl,rfl,rfl,rfl⟩⟩
set_option maxHeartbeats 1000000 in
theorem packetCame_via (h:Mx w0 P w B m) (load:ByteArray) (id ttl pr fr ta:Int) (ld:ByteArray) (k1 f t:Int) (ld2:ByteArray) (k2:Int)
  (hI:∀ u,Calls Tryz.prog 173 #[.string load] u fun e w'=>e=.returned (.tuple #[.agg #[.int .u16 id,.int .u8 ttl,.int .u8 pr,.int .u32 fr,.int .u32 ta,.string ld],.int .i64 k1])∧Below u.heap.size u w')
  (hU:∀ u,Calls Tryz.prog 174 #[.string ld,.int .u32 fr,.int .u32 ta] u fun e w'=>e=.returned (.tuple #[.agg #[.int .u16 f,.int .u16 t,.string ld2],.int .i64 k2])∧Below u.heap.size u w')
  (h0:k1≠0∨pr≠17∨k2≠0→m'=m)
  (hD:k1=0→pr=17→k2=0→t=68→∀ u,Mx w0 P u B m→Calls Tryz.prog 175 #[.pointer (some ⟨B,0,none⟩),.string ld2] u fun ee w'=>ee=.returned (.tuple #[])∧Mx w0 P w' B m')
  (hT:k1=0→pr=17→k2=0→t≠68→∀ u,Mx w0 P u B m→Calls Tryz.prog 176 #[.pointer (some ⟨B,0,none⟩),.agg #[.int .u16 id,.int .u8 ttl,.int .u8 pr,.int .u32 fr,.int .u32 ta,.string ld],.agg #[.int .u16 f,.int .u16 t,.string ld2]] u fun ee w'=>ee=.returned (.tuple #[])∧Mx w0 P w' B m') :
  Calls Tryz.prog 141 #[.pointer (some ⟨B,0,none⟩),.string load] w fun ee w'=>ee=.returned (.tuple #[])∧Mx w0 P w' B m':=by
 have HR:=hide (hI w)
 have HU:=hide hU
 have HM:=hide h
 have HD:=hide hD
 have HT:=hide hT
 have H0:=hide h0
 clear hI hU h hD hT h0
 go_enter Tryz.func141,Tryz.ntmps141
 go_wp2_with fail
 refine (unhide HR).mono ?_
 rintro ee u1 ⟨rfl,hb1⟩
 have HM1:=hide (((unhide HM).below hb1).alloc (.cells #[.int .u16 id,.int .u8 ttl,.int .u8 pr,.int .u32 fr,.int .u32 ta,.string ld] 120))
 have HR1:Hid ((u1.alloc (.cells #[.int .u16 id,.int .u8 ttl,.int .u8 pr,.int .u32 fr,.int .u32 ta,.string ld] 120)).heap[u1.heap.size]?=some (.cells #[.int .u16 id,.int .u8 ttl,.int .u8 pr,.int .u32 fr,.int .u32 ta,.string ld] 120 (0,0))):=hide (heap_alloc_new u1 _)
 clear hb1 HR HM
 by_cases hk1:k1=0
 ·by_cases hp:pr=17
  ·have HC:=hide (unhide HU (u1.alloc (.cells #[.int .u16 id,.int .u8 ttl,.int .u8 pr,.int .u32 fr,.int .u32 ta,.string ld] 120)))
   subst hk1
   subst hp
   go_wp2_with fail
   refine (unhide HC).mono ?_
   rintro ee u2 ⟨rfl,hb2⟩
   have HM2:=hide (((unhide HM1).below hb2).alloc (.cells #[.int .u16 f,.int .u16 t,.string ld2] 98))
   have HR2:=hide ((hb2.block u1.heap.size (lt_of_block' (unhide HR1))).trans (unhide HR1))
   have HRA:=hide ((Below.heap_alloc u2 (.cells #[.int .u16 f,.int .u16 t,.string ld2] 98) _ (lt_of_block' (unhide HR2))).trans (unhide HR2))
   clear hb2 HC HM1 HR1 HR2
   by_cases hk2:k2=0
   ·subst hk2
    by_cases ht:t=68
    ·have HX:=hide (unhide HD (by trivial) (by trivial) (by trivial) ht _ (unhide HM2))
     subst ht
     go_wp2_with fail
     refine (unhide HX).mono ?_
     rintro ee u3 ⟨rfl,h3⟩
     have H3:=hide h3
     clear h3
     go_wp2
     go_returns
     exact ⟨rfl,unhide H3⟩
    ·have HX:=hide (unhide HT (by trivial) (by trivial) (by trivial) ht _ (unhide HM2))
     have ht2:(t==68)=false:=by simpa using ht
     obtain ⟨x0,x1,x2,x3,x4,x5⟩:=row6 (unhide HRA)
     go_wp2_with fail
     refine (unhide HX).mono ?_
     rintro ee u3 ⟨rfl,h3⟩
     have H3:=hide h3
     clear h3
     go_wp2
     go_returns
     exact ⟨rfl,unhide H3⟩
   ·have hkk:(k2 != 0)=true:=by simpa using hk2
    have e:=unhide H0 (Or.inr (Or.inr hk2))
    subst e
    go_wp2
    go_returns
    exact ⟨rfl,unhide HM2⟩
  ·have hkk:(pr != 17)=true:=by simpa using hp
   have e:=unhide H0 (Or.inr (Or.inl hp))
   subst e
   subst hk1
   go_wp2
   go_returns
   exact ⟨rfl,unhide HM1⟩
 ·have hkk:(k1 != 0)=true:=by simpa using hk1
  have e:=unhide H0 (Or.inl hk1)
  subst e
  go_wp2
  go_returns
  exact ⟨rfl,unhide HM1⟩
end Go.Proofs.YtbhbbeebncmaiaaGreatDoor.Mac
namespace Go.Proofs.YtbhbbeebncmaiaaGreatDoor.Mac
open Go.ChangeShapes Go.WideShapes Go.ChangeAt Go.RowKit Bs
set_option linter.unusedVariables false
set_option linter.unusedSimpArgs false
variable {w0 : World} {P : Nat → Prop} {w w' : World} {B Q : Nat} {m m' : Mc}
def Acts (f:Nat) (args:Array Value) (B:Nat) (m m':Mc):Prop:=∀ (w0:World) (P:Nat→Prop) (u:World),Mx w0 P u B m→Calls Tryz.prog f args u fun ee w'=>ee=.returned (.tuple #[])∧Mx w0 P w' B m'
theorem row4 {u:World} {g:Nat} {t:TypeId} {a0 a1 a2 a3:Value} (h:u.heap[g]?=some (.cells #[a0,a1,a2,a3] t (0,0))) :
  u.cell? ⟨g,0,none⟩=some a0∧u.cell? ⟨g,1,none⟩=some a1∧u.cell? ⟨g,2,none⟩=some a2∧u.cell? ⟨g,3,none⟩=some a3:=by
 have q:=fun j=>cell_of_row u g j _ _ _ h
 exact ⟨q 0,q 1,q 2,q 3⟩
set_option maxHeartbeats 2000000 in
theorem handOn_none (h:Mx w0 P w B m) (g cap:Nat) (hg:w.heap[g]?=some (.cells #[.int .u16 2054,(.func (.func 140) #[] #[]),.int .u16 2048,(.func (.func 141) #[] #[])] 201 (0,0))) (kd:Int) (s:ByteArray) (k1:kd≠2054) (k2:kd≠2048) :
  Calls Tryz.prog 99 #[.pointer (some ⟨B,0,none⟩),.slice (some ⟨g,0,none⟩) 2 cap,.int .u16 kd,.string s] w fun ee w'=>ee=.returned (.tuple #[])∧Mx w0 P w' B m:=by
 have HM:=hide h
 have hl:=lt_of_block' hg
 obtain ⟨x0,x1,x2,x3⟩:=row4 hg
 have e1:(2054==kd)=false:=by simpa using fun e=>k1 e.symm
 have e2:(2048==kd)=false:=by simpa using fun e=>k2 e.symm
 have y:=row4 ((Below.heap_alloc w (.cells #[.int .u16 2054,(.func (.func 140) #[] #[])] 201) g hl).trans hg)
 obtain ⟨y0,y1,y2,y3⟩:=y
 clear h hg k1 k2
 go_enter Tryz.func99,Tryz.ntmps99
 go_wp2
 refine wp_loop_rounds 3 ?_
 rw [rounds_succ]
 go_wp2
 rw [rounds_succ]
 go_wp2
 rw [rounds_succ]
 go_wp2
 go_end0
 exact ⟨rfl,(((unhide HM).alloc _).alloc _)⟩
set_option maxHeartbeats 2000000 in
theorem handOn_first (h:Mx w0 P w B m) (g cap:Nat) (hg:w.heap[g]?=some (.cells #[.int .u16 2054,(.func (.func 140) #[] #[]),.int .u16 2048,(.func (.func 141) #[] #[])] 201 (0,0))) (hF:¬ Foot B m g) (s:ByteArray) (hA:Acts 140 #[.pointer (some ⟨B,0,none⟩),.string s] B m m') :
  Calls Tryz.prog 99 #[.pointer (some ⟨B,0,none⟩),.slice (some ⟨g,0,none⟩) 2 cap,.int .u16 2054,.string s] w fun ee w'=>ee=.returned (.tuple #[])∧Mx w0 P w' B m':=by
 have HM:=hide (h.alloc (.cells #[.int .u16 2054,(.func (.func 140) #[] #[])] 201))
 have HC:=hide (hA _ _ _ (unhide HM).base)
 have hl:=lt_of_block' hg
 obtain ⟨x0,x1,x2,x3⟩:=row4 hg
 have HR:=hide ((Below.heap_alloc w (.cells #[.int .u16 2054,(.func (.func 140) #[] #[])] 201) g hl).trans hg)
 clear h hg hA
 go_enter Tryz.func99,Tryz.ntmps99
 go_wp2
 refine wp_loop_rounds 3 ?_
 rw [rounds_succ]
 go_wp2_with fail
 refine (unhide HC).mono ?_
 rintro ee u2 ⟨rfl,h2⟩
 have HM2:=hide ((unhide HM).join h2)
 obtain ⟨y0,y1,y2,y3⟩:=row4 ((h2.kept g (lt_of_block' (unhide HR)) hF).trans (unhide HR))
 clear h2 HC HM HR x0 x1 x2 x3
 go_wp2
 rw [rounds_succ]
 go_wp2
 rw [rounds_succ]
 go_wp2
 go_end0
 exact ⟨rfl,(unhide HM2).alloc _⟩
set_option maxHeartbeats 2000000 in
theorem handOn_second (h:Mx w0 P w B m) (g cap:Nat) (hg:w.heap[g]?=some (.cells #[.int .u16 2054,(.func (.func 140) #[] #[]),.int .u16 2048,(.func (.func 141) #[] #[])] 201 (0,0))) (hF:¬ Foot B m g) (s:ByteArray) (hA:Acts 141 #[.pointer (some ⟨B,0,none⟩),.string s] B m m') :
  Calls Tryz.prog 99 #[.pointer (some ⟨B,0,none⟩),.slice (some ⟨g,0,none⟩) 2 cap,.int .u16 2048,.string s] w fun ee w'=>ee=.returned (.tuple #[])∧Mx w0 P w' B m':=by
 have HM:=hide ((h.alloc (.cells #[.int .u16 2054,(.func (.func 140) #[] #[])] 201)).alloc (.cells #[.int .u16 2048,(.func (.func 141) #[] #[])] 201))
 have HC:=hide (hA _ _ _ (unhide HM).base)
 have hl:=lt_of_block' hg
 obtain ⟨x0,x1,x2,x3⟩:=row4 hg
 obtain ⟨y0,y1,y2,y3⟩:=row4 ((Below.heap_alloc w (.cells #[.int .u16 2054,(.func (.func 140) #[] #[])] 201) g hl).trans hg)
 clear h hg hA
 go_enter Tryz.func99,Tryz.ntmps99
 go_wp2
 refine wp_loop_rounds 3 ?_
 rw [rounds_succ]
 go_wp2
 rw [rounds_succ]
 go_wp2_with fail
 refine (unhide HC).mono ?_
 rintro ee u2 ⟨rfl,h2⟩
 have HM2:=hide ((unhide HM).join h2)
 clear h2 HC HM x0 x1 x2 x3 y0 y1 y2 y3
 go_wp2
 rw [rounds_succ]
 go_wp2
 go_end0
 exact ⟨rfl,unhide HM2⟩
end Go.Proofs.YtbhbbeebncmaiaaGreatDoor.Mac
namespace Go.Proofs.YtbhbbeebncmaiaaGreatDoor.Mac
open Go.ChangeShapes Go.WideShapes Go.ChangeAt Go.RowKit Bs
set_option linter.unusedVariables false
set_option linter.unusedSimpArgs false
variable {w0 : World} {P : Nat → Prop} {w w' : World} {B Q : Nat} {m m' : Mc}
theorem frameHands_any (u:World):Calls Tryz.prog 100 #[] u fun e w'=>e=.returned (.slice (some ⟨u.heap.size,0,none⟩) 2 2)∧w'=u.alloc (.cells #[.int .u16 2054,(.func (.func 140) #[] #[]),.int .u16 2048,(.func (.func 141) #[] #[])] 201):=by
 go_enter Tryz.func100,Tryz.ntmps100
 go_wp2
 go_ret
 exact ⟨rfl,rfl⟩
theorem frameHands_mx {u:World} (h:Mx w0 P u B m) (b:Nat) (t12 t13:Value) (x12:u.cell? ⟨b,12,none⟩=some t12) (x13:u.cell? ⟨b,13,none⟩=some t13):Calls Tryz.prog 100 #[] u fun e w'=>∃ g,e=.returned (.slice (some ⟨g,0,none⟩) 2 2)∧Hid (Mx w0 P w' B m)∧w'.cell? ⟨b,12,none⟩=some t12∧w'.cell? ⟨b,13,none⟩=some t13∧Hid (w'.heap[g]?=some (.cells #[.int .u16 2054,(.func (.func 140) #[] #[]),.int .u16 2048,(.func (.func 141) #[] #[])] 201 (0,0)))∧Hid (¬ Foot B m g):=by
 refine (frameHands_any u).mono ?_
 rintro e w' ⟨rfl,rfl⟩
 have hb:b<u.heap.size:=World.block_lt_of_cell? u _ x12
 exact ⟨_,rfl,hide (h.alloc _),(World.cell?_of_block (Below.heap_alloc u _ b hb)).trans x12,(World.cell?_of_block (Below.heap_alloc u _ b hb)).trans x13,hide (heap_alloc_new u _),hide (fun hf=>Nat.lt_irrefl _ (h.foot_lt hf))⟩
theorem handOn_any (h:Mx w0 P w B m) (g cap:Nat) (hg:w.heap[g]?=some (.cells #[.int .u16 2054,(.func (.func 140) #[] #[]),.int .u16 2048,(.func (.func 141) #[] #[])] 201 (0,0))) (hF:¬ Foot B m g) (kd:Int) (s:ByteArray) (hA:kd=2054→Acts 140 #[.pointer (some ⟨B,0,none⟩),.string s] B m m') (hP:kd=2048→Acts 141 #[.pointer (some ⟨B,0,none⟩),.string s] B m m') (h0:kd≠2054→kd≠2048→m'=m) :
  Calls Tryz.prog 99 #[.pointer (some ⟨B,0,none⟩),.slice (some ⟨g,0,none⟩) 2 cap,.int .u16 kd,.string s] w fun ee w'=>ee=.returned (.tuple #[])∧Mx w0 P w' B m':=by
 by_cases k1:kd=2054
 ·subst k1
  exact handOn_first h g cap hg hF s (hA rfl)
 ·by_cases k2:kd=2048
  ·subst k2
   exact handOn_second h g cap hg hF s (hP rfl)
  ·rw [h0 k1 k2]
   exact handOn_none h g cap hg kd s k1 k2
def toMe (m:Mc) (a0 a1 a2 a3 a4 a5:Int):Bool:=(a0==(m.k0.toNat:Int)&&a1==(m.k1.toNat:Int)&&a2==(m.k2.toNat:Int)&&a3==(m.k3.toNat:Int)&&a4==(m.k4.toNat:Int)&&a5==(m.k5.toNat:Int)) || (a0==255&&a1==255&&a2==255&&a3==255&&a4==255&&a5==255)
theorem row14 {u:World} {g:Nat} {t:TypeId} {b0 b1 b2 b3 b4 b5 b6 b7 b8 b9 b10 b11 b12 b13:Value} (h:u.heap[g]?=some (.cells #[b0,b1,b2,b3,b4,b5,b6,b7,b8,b9,b10,b11,b12,b13] t (0,0))) :
  u.cell? ⟨g,0,none⟩=some b0∧u.cell? ⟨g,1,none⟩=some b1∧u.cell? ⟨g,2,none⟩=some b2∧u.cell? ⟨g,3,none⟩=some b3∧u.cell? ⟨g,4,none⟩=some b4∧u.cell? ⟨g,5,none⟩=some b5∧u.cell? ⟨g,6,none⟩=some b6∧u.cell? ⟨g,7,none⟩=some b7∧u.cell? ⟨g,8,none⟩=some b8∧u.cell? ⟨g,9,none⟩=some b9∧u.cell? ⟨g,10,none⟩=some b10∧u.cell? ⟨g,11,none⟩=some b11∧u.cell? ⟨g,12,none⟩=some b12∧u.cell? ⟨g,13,none⟩=some b13:=by
 have q:=fun j=>cell_of_row u g j _ _ _ h
 exact ⟨q 0,q 1,q 2,q 3,q 4,q 5,q 6,q 7,q 8,q 9,q 10,q 11,q 12,q 13⟩
set_option maxHeartbeats 4000000 in
theorem frame_via (h:Mx w0 P w B m) (s:ByteArray) (a0 a1 a2 a3 a4 a5 a6 a7 a8 a9 a10 a11 ty:Int) (ld:ByteArray) (k:Int)
  (hE:∀ u,Calls Tryz.prog 98 #[.string s] u fun e w'=>e=.returned (.tuple #[.agg #[.int .u8 a0,.int .u8 a1,.int .u8 a2,.int .u8 a3,.int .u8 a4,.int .u8 a5,.int .u8 a6,.int .u8 a7,.int .u8 a8,.int .u8 a9,.int .u8 a10,.int .u8 a11,.int .u16 ty,.string ld],.int .i64 k])∧Below u.heap.size u w')
  (h0:k≠0∨toMe m a0 a1 a2 a3 a4 a5=false→m'=m)
  (h1:k=0→toMe m a0 a1 a2 a3 a4 a5=true→ty≠2054→ty≠2048→m'=m)
  (hA:k=0→toMe m a0 a1 a2 a3 a4 a5=true→ty=2054→Acts 140 #[.pointer (some ⟨B,0,none⟩),.string ld] B m m')
  (hP:k=0→toMe m a0 a1 a2 a3 a4 a5=true→ty=2048→Acts 141 #[.pointer (some ⟨B,0,none⟩),.string ld] B m m') :
  Calls Tryz.prog 64 #[.pointer (some ⟨B,0,none⟩),.string s] w fun ee w'=>ee=.returned (.tuple #[])∧Mx w0 P w' B m':=by
 have HR:=hide (hE w)
 have HM:=hide h
 have hq1:=fun u=>mac_eq a0 a1 a2 a3 a4 a5 m.k0.toNat m.k1.toNat m.k2.toNat m.k3.toNat m.k4.toNat m.k5.toNat u
 have hq2:=fun u=>mac_eq a0 a1 a2 a3 a4 a5 255 255 255 255 255 255 u
 have HTM:Hid (toMe m a0 a1 a2 a3 a4 a5=((a0==(m.k0.toNat:Int)&&a1==(m.k1.toNat:Int)&&a2==(m.k2.toNat:Int)&&a3==(m.k3.toNat:Int)&&a4==(m.k4.toNat:Int)&&a5==(m.k5.toNat:Int)) || (a0==255&&a1==255&&a2==255&&a3==255&&a4==255&&a5==255))):=hide rfl
 generalize (a0==(m.k0.toNat:Int)&&a1==(m.k1.toNat:Int)&&a2==(m.k2.toNat:Int)&&a3==(m.k3.toNat:Int)&&a4==(m.k4.toNat:Int)&&a5==(m.k5.toNat:Int))=b1 at hq1 HTM
 generalize (a0==255&&a1==255&&a2==255&&a3==255&&a4==255&&a5==255)=b2 at hq2 HTM
 have H0:=hide h0
 have H1:=hide h1
 have HA:=hide hA
 have HP:=hide hP
 clear hE h h0 h1 hA hP
 go_enter Tryz.func64,Tryz.ntmps64
 go_wp2_with fail
 refine (unhide HR).mono ?_
 rintro ee u1 ⟨rfl,hb1⟩
 have HNF:¬ Foot B m u1.heap.size:=fun hf=>Nat.lt_irrefl _ (((unhide HM).below hb1).foot_lt hf)
 have HM1:=hide (((unhide HM).below hb1).alloc (.cells #[.int .u8 a0,.int .u8 a1,.int .u8 a2,.int .u8 a3,.int .u8 a4,.int .u8 a5,.int .u8 a6,.int .u8 a7,.int .u8 a8,.int .u8 a9,.int .u8 a10,.int .u8 a11,.int .u16 ty,.string ld] 111))
 have HR1:Hid ((u1.alloc (.cells #[.int .u8 a0,.int .u8 a1,.int .u8 a2,.int .u8 a3,.int .u8 a4,.int .u8 a5,.int .u8 a6,.int .u8 a7,.int .u8 a8,.int .u8 a9,.int .u8 a10,.int .u8 a11,.int .u16 ty,.string ld] 111)).heap[u1.heap.size]?=some (.cells #[.int .u8 a0,.int .u8 a1,.int .u8 a2,.int .u8 a3,.int .u8 a4,.int .u8 a5,.int .u8 a6,.int .u8 a7,.int .u8 a8,.int .u8 a9,.int .u8 a10,.int .u8 a11,.int .u16 ty,.string ld] 111 (0,0))):=hide (heap_alloc_new u1 _)
 clear hb1 HR HM
 by_cases hk:k=0
 ·subst hk
  obtain ⟨v,hv⟩:∃ v,v=u1.alloc (.cells #[.int .u8 a0,.int .u8 a1,.int .u8 a2,.int .u8 a3,.int .u8 a4,.int .u8 a5,.int .u8 a6,.int .u8 a7,.int .u8 a8,.int .u8 a9,.int .u8 a10,.int .u8 a11,.int .u16 ty,.string ld] 111):=⟨_,rfl⟩
  rw [← hv] at HM1 HR1
  have HV:=hide hv
  clear hv
  have HHO:∀ u,Hid (Mx w0 P u B m)→Hid (b1=true∨b2=true)→∀ g cap,Hid (u.heap[g]?=some (.cells #[.int .u16 2054,(.func (.func 140) #[] #[]),.int .u16 2048,(.func (.func 141) #[] #[])] 201 (0,0)))→Hid (¬ Foot B m g)→u1.heap.size<u.heap.size→Hid (Calls Tryz.prog 99 #[.pointer (some ⟨B,0,none⟩),.slice (some ⟨g,0,none⟩) 2 cap,.int .u16 ty,.string ld] u fun ee w'=>ee=.returned (.tuple #[])∧Hid (Mx w0 P w' B m')∧w'.heap[u1.heap.size]?=u.heap[u1.heap.size]?):=fun u hu hb g cap hg hf hx=>hide (by
   have ht:toMe m a0 a1 a2 a3 a4 a5=true:=by rw [unhide HTM]; rcases unhide hb with rfl | rfl <;> simp
   refine (handOn_any (unhide hu).base g cap (unhide hg) (unhide hf) ty ld (fun e=>unhide HA (by trivial) ht e) (fun e=>unhide HP (by trivial) ht e) (fun e f=>unhide H1 (by trivial) ht e f)).mono ?_
   rintro ee w' ⟨rfl,hk⟩
   exact ⟨rfl,hide ((unhide hu).join hk),hk.kept _ hx HNF⟩)
  cases b1 with
  | true =>
   go_wp2
   rw [← unhide HV]
   have c1:=(unhide HM1).c1
   have c2:=(unhide HM1).c2
   have c3:=(unhide HM1).c3
   have c4:=(unhide HM1).c4
   have c5:=(unhide HM1).c5
   have c6:=(unhide HM1).c6
   obtain ⟨g0,g1,g2,g3,g4,g5⟩:=(unhide HM1).all6
   obtain ⟨x0,x1,x2,x3,x4,x5,x6,x7,x8,x9,x10,x11,x12,x13⟩:=row14 (unhide HR1)
   go_quiet (fail)
   go_wp2
   obtain ⟨v2,hv2⟩:∃ v2,v2=v.drewN nq:=⟨_,rfl⟩
   have HMv:Hid (Mx w0 P v2 B m):=hide (by rw [hv2]; exact (unhide HM1).like ⟨rfl,rfl,rfl,rfl⟩)
   have z12:v2.cell? ⟨u1.heap.size,12,none⟩=some (.int .u16 ty):=by rw [hv2]; exact x12
   have z13:v2.cell? ⟨u1.heap.size,13,none⟩=some (.string ld):=by rw [hv2]; exact x13
   rw [← hv2]
   clear hv2 x12 x13 HM1 HR1
   clear c1 c2 c3 c4 c5 c6 g0 g1 g2 g3 g4 g5 hq1 hq2 x0 x1 x2 x3 x4 x5 x6 x7 x8 x9 x10 x11
   go_region_held3 (fun u=>u.cell? ⟨u1.heap.size,12,none⟩=some (.int .u16 ty)∧u.cell? ⟨u1.heap.size,13,none⟩=some (.string ld)) (go_keep)
    (first | (go_at_call 100; refine (frameHands_mx (unhide HMv).drew u1.heap.size _ _ (by exact z12) (by exact z13)).mono ?_; rintro ee u2 ⟨g,rfl,HM2,y12,y13,HG2,HNV⟩) | (go_at_call 99; refine (unhide (HHO _ HM2 (hide (by first | exact Or.inl rfl | exact Or.inr rfl | simp)) _ _ HG2 HNV (World.block_lt_of_cell? u2 _ y12))).mono ?_; rintro ee u3 ⟨rfl,H3,hkb⟩; have w12:=(World.cell?_of_block hkb).trans y12; have w13:=(World.cell?_of_block hkb).trans y13))
   go_wp2
   go_returns
   exact ⟨rfl,unhide H3⟩
  | false =>
   cases b2 with
   | true =>
    go_wp2
    rw [← unhide HV]
    have c1:=(unhide HM1).c1
    have c2:=(unhide HM1).c2
    have c3:=(unhide HM1).c3
    have c4:=(unhide HM1).c4
    have c5:=(unhide HM1).c5
    have c6:=(unhide HM1).c6
    obtain ⟨g0,g1,g2,g3,g4,g5⟩:=(unhide HM1).all6
    obtain ⟨x0,x1,x2,x3,x4,x5,x6,x7,x8,x9,x10,x11,x12,x13⟩:=row14 (unhide HR1)
    go_quiet (fail)
    go_wp2
    obtain ⟨v2,hv2⟩:∃ v2,v2=v.drewN nq:=⟨_,rfl⟩
    have HMv:Hid (Mx w0 P v2 B m):=hide (by rw [hv2]; exact (unhide HM1).like ⟨rfl,rfl,rfl,rfl⟩)
    have z12:v2.cell? ⟨u1.heap.size,12,none⟩=some (.int .u16 ty):=by rw [hv2]; exact x12
    have z13:v2.cell? ⟨u1.heap.size,13,none⟩=some (.string ld):=by rw [hv2]; exact x13
    rw [← hv2]
    clear hv2 x12 x13 HM1 HR1
    clear c1 c2 c3 c4 c5 c6 g0 g1 g2 g3 g4 g5 hq1 hq2 x0 x1 x2 x3 x4 x5 x6 x7 x8 x9 x10 x11
    go_region_held3 (fun u=>u.cell? ⟨u1.heap.size,12,none⟩=some (.int .u16 ty)∧u.cell? ⟨u1.heap.size,13,none⟩=some (.string ld)) (go_keep)
     (first | (go_at_call 100; refine (frameHands_mx (unhide HMv).drew u1.heap.size _ _ (by exact z12) (by exact z13)).mono ?_; rintro ee u2 ⟨g,rfl,HM2,y12,y13,HG2,HNV⟩) | (go_at_call 99; refine (unhide (HHO _ HM2 (hide (by first | exact Or.inl rfl | exact Or.inr rfl | simp)) _ _ HG2 HNV (World.block_lt_of_cell? u2 _ y12))).mono ?_; rintro ee u3 ⟨rfl,H3,hkb⟩; have w12:=(World.cell?_of_block hkb).trans y12; have w13:=(World.cell?_of_block hkb).trans y13))
    go_wp2
    go_returns
    exact ⟨rfl,unhide H3⟩
   | false =>
    have e:=unhide H0 (Or.inr (by rw [unhide HTM]; rfl))
    subst e
    go_wp2
    rw [← unhide HV]
    have c1:=(unhide HM1).c1
    have c2:=(unhide HM1).c2
    have c3:=(unhide HM1).c3
    have c4:=(unhide HM1).c4
    have c5:=(unhide HM1).c5
    have c6:=(unhide HM1).c6
    obtain ⟨g0,g1,g2,g3,g4,g5⟩:=(unhide HM1).all6
    obtain ⟨x0,x1,x2,x3,x4,x5,x6,x7,x8,x9,x10,x11,x12,x13⟩:=row14 (unhide HR1)
    go_quiet (fail)
    go_wp2
    go_returns
    exact ⟨rfl,(unhide HM1).like ⟨rfl,rfl,rfl,rfl⟩⟩
 ·have hkk:(k != 0)=true:=by simpa using hk
  have e:=unhide H0 (Or.inl hk)
  subst e
  go_wp2
  go_quiet (fail)
  go_wp2
  go_returns
  exact ⟨rfl,(unhide HM1).like ⟨rfl,rfl,rfl,rfl⟩⟩
end Go.Proofs.YtbhbbeebncmaiaaGreatDoor.Mac
namespace Go.Proofs.YtbhbbeebncmaiaaGreatDoor.Mac
open Go.ChangeShapes Go.WideShapes Go.ChangeAt Go.RowKit Bs
set_option linter.unusedVariables false
set_option linter.unusedSimpArgs false
variable {w0 : World} {P : Nat → Prop} {w w' : World} {B Q : Nat} {m m' : Mc}
def ActsR (R:World→Prop) (f:Nat) (args:Array Value) (B:Nat) (m m':Mc):Prop:=∀ (w0:World) (P:Nat→Prop) (u:World),Mx w0 P u B m→R u→Calls Tryz.prog f args u fun ee w'=>ee=.returned (.tuple #[])∧Mx w0 P w' B m'
theorem replyHands_any (u:World):Calls Tryz.prog 217 #[] u fun e w'=>e=.returned (.slice (some ⟨u.heap.size,0,none⟩) 3 3)∧w'=u.alloc (.cells #[.int .u16 2,(.func (.func 255) #[] #[]),.int .u16 5,(.func (.func 256) #[] #[]),.int .u16 6,(.func (.func 257) #[] #[])] 299):=by
 go_enter Tryz.func217,Tryz.ntmps217
 go_wp2
 go_ret
 exact ⟨rfl,rfl⟩
theorem row6' {u:World} {g:Nat} {t:TypeId} {b0 b1 b2 b3 b4 b5:Value} (h:u.heap[g]?=some (.cells #[b0,b1,b2,b3,b4,b5] t (0,0))) :
  u.cell? ⟨g,0,none⟩=some b0∧u.cell? ⟨g,1,none⟩=some b1∧u.cell? ⟨g,2,none⟩=some b2∧u.cell? ⟨g,3,none⟩=some b3∧u.cell? ⟨g,4,none⟩=some b4∧u.cell? ⟨g,5,none⟩=some b5:=by
 have q:=fun j=>cell_of_row u g j _ _ _ h
 exact ⟨q 0,q 1,q 2,q 3,q 4,q 5⟩
theorem row13' {u:World} {g:Nat} {t:TypeId} {b0 b1 b2 b3 b4 b5 b6 b7 b8 b9 b10 b11 b12:Value} (h:u.heap[g]?=some (.cells #[b0,b1,b2,b3,b4,b5,b6,b7,b8,b9,b10,b11,b12] t (0,0))) :
  u.cell? ⟨g,0,none⟩=some b0∧u.cell? ⟨g,1,none⟩=some b1∧u.cell? ⟨g,2,none⟩=some b2∧u.cell? ⟨g,3,none⟩=some b3∧u.cell? ⟨g,4,none⟩=some b4∧u.cell? ⟨g,5,none⟩=some b5∧u.cell? ⟨g,6,none⟩=some b6∧u.cell? ⟨g,7,none⟩=some b7∧u.cell? ⟨g,8,none⟩=some b8∧u.cell? ⟨g,9,none⟩=some b9∧u.cell? ⟨g,10,none⟩=some b10∧u.cell? ⟨g,11,none⟩=some b11∧u.cell? ⟨g,12,none⟩=some b12:=by
 have q:=fun j=>cell_of_row u g j _ _ _ h
 exact ⟨q 0,q 1,q 2,q 3,q 4,q 5,q 6,q 7,q 8,q 9,q 10,q 11,q 12⟩
set_option maxHeartbeats 4000000 in
theorem reply_none (h:Mx w0 P w B m) (g cap:Nat) (hg:w.heap[g]?=some (.cells #[.int .u16 2,(.func (.func 255) #[] #[]),.int .u16 5,(.func (.func 256) #[] #[]),.int .u16 6,(.func (.func 257) #[] #[])] 299 (0,0))) (hF:¬ Foot B m g) (kd:Int) (rep:Bool) (xid cl yo ne d0 d1 d2 d3 d4 d5:Int) (sa:Option Addr) (sn sc:Nat) (sv:Int) (k1:kd≠2) (k2:kd≠5) (k3:kd≠6) :
  Calls Tryz.prog 216 #[.pointer (some ⟨B,0,none⟩),.slice (some ⟨g,0,none⟩) 3 cap,.int .u16 kd,.agg #[.bool rep,.int .u32 xid,.int .u32 cl,.int .u32 yo,.int .u32 ne,.int .u8 d0,.int .u8 d1,.int .u8 d2,.int .u8 d3,.int .u8 d4,.int .u8 d5,.slice sa sn sc,.int .u32 sv]] w fun ee w'=>ee=.returned (.tuple #[])∧Mx w0 P w' B m:=by
 have hl:=lt_of_block' hg
 have e0:(2==kd)=false:=by simpa using fun e=>k1 e.symm
 have e1:(5==kd)=false:=by simpa using fun e=>k2 e.symm
 have e2:(6==kd)=false:=by simpa using fun e=>k3 e.symm
 have HG0:=hide ((Below.heap_alloc w (.cells #[.bool rep,.int .u32 xid,.int .u32 cl,.int .u32 yo,.int .u32 ne,.int .u8 d0,.int .u8 d1,.int .u8 d2,.int .u8 d3,.int .u8 d4,.int .u8 d5,.slice sa sn sc,.int .u32 sv] 262) g (by have:=hl; simp; omega)).trans hg)
 have HG1:=hide ((Below.heap_alloc (w.alloc (.cells #[.bool rep,.int .u32 xid,.int .u32 cl,.int .u32 yo,.int .u32 ne,.int .u8 d0,.int .u8 d1,.int .u8 d2,.int .u8 d3,.int .u8 d4,.int .u8 d5,.slice sa sn sc,.int .u32 sv] 262)) (.cells #[.int .u16 2,(.func (.func 255) #[] #[])] 299) g (by have:=hl; simp; omega)).trans (unhide HG0))
 have HG2:=hide ((Below.heap_alloc ((w.alloc (.cells #[.bool rep,.int .u32 xid,.int .u32 cl,.int .u32 yo,.int .u32 ne,.int .u8 d0,.int .u8 d1,.int .u8 d2,.int .u8 d3,.int .u8 d4,.int .u8 d5,.slice sa sn sc,.int .u32 sv] 262)).alloc (.cells #[.int .u16 2,(.func (.func 255) #[] #[])] 299)) (.cells #[.int .u16 5,(.func (.func 256) #[] #[])] 299) g (by have:=hl; simp; omega)).trans (unhide HG1))
 have HG3:=hide ((Below.heap_alloc (((w.alloc (.cells #[.bool rep,.int .u32 xid,.int .u32 cl,.int .u32 yo,.int .u32 ne,.int .u8 d0,.int .u8 d1,.int .u8 d2,.int .u8 d3,.int .u8 d4,.int .u8 d5,.slice sa sn sc,.int .u32 sv] 262)).alloc (.cells #[.int .u16 2,(.func (.func 255) #[] #[])] 299)).alloc (.cells #[.int .u16 5,(.func (.func 256) #[] #[])] 299)) (.cells #[.int .u16 6,(.func (.func 257) #[] #[])] 299) g (by have:=hl; simp; omega)).trans (unhide HG2))
 obtain ⟨p0_0,p0_1,p0_2,p0_3,p0_4,p0_5⟩:=row6' (unhide HG0)
 obtain ⟨p1_0,p1_1,p1_2,p1_3,p1_4,p1_5⟩:=row6' (unhide HG1)
 obtain ⟨p2_0,p2_1,p2_2,p2_3,p2_4,p2_5⟩:=row6' (unhide HG2)
 have HM:=hide ((((h.alloc (.cells #[.bool rep,.int .u32 xid,.int .u32 cl,.int .u32 yo,.int .u32 ne,.int .u8 d0,.int .u8 d1,.int .u8 d2,.int .u8 d3,.int .u8 d4,.int .u8 d5,.slice sa sn sc,.int .u32 sv] 262)).alloc (.cells #[.int .u16 2,(.func (.func 255) #[] #[])] 299)).alloc (.cells #[.int .u16 5,(.func (.func 256) #[] #[])] 299)).alloc (.cells #[.int .u16 6,(.func (.func 257) #[] #[])] 299))
 clear h hg k1 k2 k3
 go_enter Tryz.func216,Tryz.ntmps216
 go_wp2
 refine wp_loop_rounds 4 ?_
 rw [rounds_succ]
 go_wp2
 rw [rounds_succ]
 go_wp2
 rw [rounds_succ]
 go_wp2
 rw [rounds_succ]
 go_wp2
 go_end0
 exact ⟨rfl,unhide HM⟩
set_option maxHeartbeats 4000000 in
theorem reply_first (h:Mx w0 P w B m) (g cap:Nat) (hg:w.heap[g]?=some (.cells #[.int .u16 2,(.func (.func 255) #[] #[]),.int .u16 5,(.func (.func 256) #[] #[]),.int .u16 6,(.func (.func 257) #[] #[])] 299 (0,0))) (hF:¬ Foot B m g) (rep:Bool) (xid cl yo ne d0 d1 d2 d3 d4 d5:Int) (sa:Option Addr) (sn sc:Nat) (sv:Int) (R:World→Prop) (hRs:∀ u u',R u→Below u.heap.size u u'→R u') (hR:R w) (hA:ActsR R 255 #[.pointer (some ⟨B,0,none⟩),.agg #[.bool rep,.int .u32 xid,.int .u32 cl,.int .u32 yo,.int .u32 ne,.int .u8 d0,.int .u8 d1,.int .u8 d2,.int .u8 d3,.int .u8 d4,.int .u8 d5,.slice sa sn sc,.int .u32 sv]] B m m') :
  Calls Tryz.prog 216 #[.pointer (some ⟨B,0,none⟩),.slice (some ⟨g,0,none⟩) 3 cap,.int .u16 2,.agg #[.bool rep,.int .u32 xid,.int .u32 cl,.int .u32 yo,.int .u32 ne,.int .u8 d0,.int .u8 d1,.int .u8 d2,.int .u8 d3,.int .u8 d4,.int .u8 d5,.slice sa sn sc,.int .u32 sv]] w fun ee w'=>ee=.returned (.tuple #[])∧Mx w0 P w' B m':=by
 have hl:=lt_of_block' hg
 have HG0:=hide ((Below.heap_alloc w (.cells #[.bool rep,.int .u32 xid,.int .u32 cl,.int .u32 yo,.int .u32 ne,.int .u8 d0,.int .u8 d1,.int .u8 d2,.int .u8 d3,.int .u8 d4,.int .u8 d5,.slice sa sn sc,.int .u32 sv] 262) g (by have:=hl; simp; omega)).trans hg)
 have HG1:=hide ((Below.heap_alloc (w.alloc (.cells #[.bool rep,.int .u32 xid,.int .u32 cl,.int .u32 yo,.int .u32 ne,.int .u8 d0,.int .u8 d1,.int .u8 d2,.int .u8 d3,.int .u8 d4,.int .u8 d5,.slice sa sn sc,.int .u32 sv] 262)) (.cells #[.int .u16 2,(.func (.func 255) #[] #[])] 299) g (by have:=hl; simp; omega)).trans (unhide HG0))
 obtain ⟨p0_0,p0_1,p0_2,p0_3,p0_4,p0_5⟩:=row6' (unhide HG0)
 have HX0:Hid ((w.alloc (.cells #[.bool rep,.int .u32 xid,.int .u32 cl,.int .u32 yo,.int .u32 ne,.int .u8 d0,.int .u8 d1,.int .u8 d2,.int .u8 d3,.int .u8 d4,.int .u8 d5,.slice sa sn sc,.int .u32 sv] 262)).heap[w.heap.size]?=some (.cells #[.bool rep,.int .u32 xid,.int .u32 cl,.int .u32 yo,.int .u32 ne,.int .u8 d0,.int .u8 d1,.int .u8 d2,.int .u8 d3,.int .u8 d4,.int .u8 d5,.slice sa sn sc,.int .u32 sv] 262 (0,0))):=hide (heap_alloc_new w _)
 have HX1:=hide ((Below.heap_alloc (w.alloc (.cells #[.bool rep,.int .u32 xid,.int .u32 cl,.int .u32 yo,.int .u32 ne,.int .u8 d0,.int .u8 d1,.int .u8 d2,.int .u8 d3,.int .u8 d4,.int .u8 d5,.slice sa sn sc,.int .u32 sv] 262)) (.cells #[.int .u16 2,(.func (.func 255) #[] #[])] 299) w.heap.size (by simp <;> omega)).trans (unhide HX0))
 obtain ⟨x0,x1,x2,x3,x4,x5,x6,x7,x8,x9,x10,x11,x12⟩:=row13' (unhide HX1)
 have HM:=hide ((h.alloc (.cells #[.bool rep,.int .u32 xid,.int .u32 cl,.int .u32 yo,.int .u32 ne,.int .u8 d0,.int .u8 d1,.int .u8 d2,.int .u8 d3,.int .u8 d4,.int .u8 d5,.slice sa sn sc,.int .u32 sv] 262)).alloc (.cells #[.int .u16 2,(.func (.func 255) #[] #[])] 299))
 have HC:=hide (hA _ _ _ (unhide HM).base (hRs w _ hR (((Below.refl w.heap.size w).alloc (by simp <;> omega) (.cells #[.bool rep,.int .u32 xid,.int .u32 cl,.int .u32 yo,.int .u32 ne,.int .u8 d0,.int .u8 d1,.int .u8 d2,.int .u8 d3,.int .u8 d4,.int .u8 d5,.slice sa sn sc,.int .u32 sv] 262)).alloc (by simp <;> omega) (.cells #[.int .u16 2,(.func (.func 255) #[] #[])] 299))))
 clear h hg hA hRs hR
 go_enter Tryz.func216,Tryz.ntmps216
 go_wp2
 refine wp_loop_rounds 4 ?_
 rw [rounds_succ]
 go_wp2_with fail
 refine (unhide HC).mono ?_
 rintro ee u2 ⟨rfl,h2⟩
 have HM2:=hide ((unhide HM).join h2)
 have HGZ:=hide ((h2.kept g (lt_of_block' (unhide HG1)) hF).trans (unhide HG1))
 clear h2 HC HM
 obtain ⟨q0,q1,q2,q3,q4,q5⟩:=row6' (unhide HGZ)
 obtain ⟨r0,r1,r2,r3,r4,r5⟩:=row6' ((Below.heap_alloc u2 (.cells #[.int .u16 5,(.func (.func 256) #[] #[])] 299) g (lt_of_block' (unhide HGZ))).trans (unhide HGZ))
 go_wp2
 rw [rounds_succ]
 go_wp2
 rw [rounds_succ]
 go_wp2
 rw [rounds_succ]
 go_wp2
 go_end0
 exact ⟨rfl,(((unhide HM2).alloc _).alloc _)⟩
set_option maxHeartbeats 4000000 in
theorem reply_second (h:Mx w0 P w B m) (g cap:Nat) (hg:w.heap[g]?=some (.cells #[.int .u16 2,(.func (.func 255) #[] #[]),.int .u16 5,(.func (.func 256) #[] #[]),.int .u16 6,(.func (.func 257) #[] #[])] 299 (0,0))) (hF:¬ Foot B m g) (rep:Bool) (xid cl yo ne d0 d1 d2 d3 d4 d5:Int) (sa:Option Addr) (sn sc:Nat) (sv:Int) (R:World→Prop) (hRs:∀ u u',R u→Below u.heap.size u u'→R u') (hR:R w) (hA:ActsR R 256 #[.pointer (some ⟨B,0,none⟩),.agg #[.bool rep,.int .u32 xid,.int .u32 cl,.int .u32 yo,.int .u32 ne,.int .u8 d0,.int .u8 d1,.int .u8 d2,.int .u8 d3,.int .u8 d4,.int .u8 d5,.slice sa sn sc,.int .u32 sv]] B m m') :
  Calls Tryz.prog 216 #[.pointer (some ⟨B,0,none⟩),.slice (some ⟨g,0,none⟩) 3 cap,.int .u16 5,.agg #[.bool rep,.int .u32 xid,.int .u32 cl,.int .u32 yo,.int .u32 ne,.int .u8 d0,.int .u8 d1,.int .u8 d2,.int .u8 d3,.int .u8 d4,.int .u8 d5,.slice sa sn sc,.int .u32 sv]] w fun ee w'=>ee=.returned (.tuple #[])∧Mx w0 P w' B m':=by
 have hl:=lt_of_block' hg
 have HG0:=hide ((Below.heap_alloc w (.cells #[.bool rep,.int .u32 xid,.int .u32 cl,.int .u32 yo,.int .u32 ne,.int .u8 d0,.int .u8 d1,.int .u8 d2,.int .u8 d3,.int .u8 d4,.int .u8 d5,.slice sa sn sc,.int .u32 sv] 262) g (by have:=hl; simp; omega)).trans hg)
 have HG1:=hide ((Below.heap_alloc (w.alloc (.cells #[.bool rep,.int .u32 xid,.int .u32 cl,.int .u32 yo,.int .u32 ne,.int .u8 d0,.int .u8 d1,.int .u8 d2,.int .u8 d3,.int .u8 d4,.int .u8 d5,.slice sa sn sc,.int .u32 sv] 262)) (.cells #[.int .u16 2,(.func (.func 255) #[] #[])] 299) g (by have:=hl; simp; omega)).trans (unhide HG0))
 have HG2:=hide ((Below.heap_alloc ((w.alloc (.cells #[.bool rep,.int .u32 xid,.int .u32 cl,.int .u32 yo,.int .u32 ne,.int .u8 d0,.int .u8 d1,.int .u8 d2,.int .u8 d3,.int .u8 d4,.int .u8 d5,.slice sa sn sc,.int .u32 sv] 262)).alloc (.cells #[.int .u16 2,(.func (.func 255) #[] #[])] 299)) (.cells #[.int .u16 5,(.func (.func 256) #[] #[])] 299) g (by have:=hl; simp; omega)).trans (unhide HG1))
 obtain ⟨p0_0,p0_1,p0_2,p0_3,p0_4,p0_5⟩:=row6' (unhide HG0)
 obtain ⟨p1_0,p1_1,p1_2,p1_3,p1_4,p1_5⟩:=row6' (unhide HG1)
 have HX0:Hid ((w.alloc (.cells #[.bool rep,.int .u32 xid,.int .u32 cl,.int .u32 yo,.int .u32 ne,.int .u8 d0,.int .u8 d1,.int .u8 d2,.int .u8 d3,.int .u8 d4,.int .u8 d5,.slice sa sn sc,.int .u32 sv] 262)).heap[w.heap.size]?=some (.cells #[.bool rep,.int .u32 xid,.int .u32 cl,.int .u32 yo,.int .u32 ne,.int .u8 d0,.int .u8 d1,.int .u8 d2,.int .u8 d3,.int .u8 d4,.int .u8 d5,.slice sa sn sc,.int .u32 sv] 262 (0,0))):=hide (heap_alloc_new w _)
 have HX1:=hide ((Below.heap_alloc (w.alloc (.cells #[.bool rep,.int .u32 xid,.int .u32 cl,.int .u32 yo,.int .u32 ne,.int .u8 d0,.int .u8 d1,.int .u8 d2,.int .u8 d3,.int .u8 d4,.int .u8 d5,.slice sa sn sc,.int .u32 sv] 262)) (.cells #[.int .u16 2,(.func (.func 255) #[] #[])] 299) w.heap.size (by simp <;> omega)).trans (unhide HX0))
 have HX2:=hide ((Below.heap_alloc ((w.alloc (.cells #[.bool rep,.int .u32 xid,.int .u32 cl,.int .u32 yo,.int .u32 ne,.int .u8 d0,.int .u8 d1,.int .u8 d2,.int .u8 d3,.int .u8 d4,.int .u8 d5,.slice sa sn sc,.int .u32 sv] 262)).alloc (.cells #[.int .u16 2,(.func (.func 255) #[] #[])] 299)) (.cells #[.int .u16 5,(.func (.func 256) #[] #[])] 299) w.heap.size (by simp <;> omega)).trans (unhide HX1))
 obtain ⟨x0,x1,x2,x3,x4,x5,x6,x7,x8,x9,x10,x11,x12⟩:=row13' (unhide HX2)
 have HM:=hide (((h.alloc (.cells #[.bool rep,.int .u32 xid,.int .u32 cl,.int .u32 yo,.int .u32 ne,.int .u8 d0,.int .u8 d1,.int .u8 d2,.int .u8 d3,.int .u8 d4,.int .u8 d5,.slice sa sn sc,.int .u32 sv] 262)).alloc (.cells #[.int .u16 2,(.func (.func 255) #[] #[])] 299)).alloc (.cells #[.int .u16 5,(.func (.func 256) #[] #[])] 299))
 have HC:=hide (hA _ _ _ (unhide HM).base (hRs w _ hR ((((Below.refl w.heap.size w).alloc (by simp <;> omega) (.cells #[.bool rep,.int .u32 xid,.int .u32 cl,.int .u32 yo,.int .u32 ne,.int .u8 d0,.int .u8 d1,.int .u8 d2,.int .u8 d3,.int .u8 d4,.int .u8 d5,.slice sa sn sc,.int .u32 sv] 262)).alloc (by simp <;> omega) (.cells #[.int .u16 2,(.func (.func 255) #[] #[])] 299)).alloc (by simp <;> omega) (.cells #[.int .u16 5,(.func (.func 256) #[] #[])] 299))))
 clear h hg hA hRs hR
 go_enter Tryz.func216,Tryz.ntmps216
 go_wp2
 refine wp_loop_rounds 4 ?_
 rw [rounds_succ]
 go_wp2
 rw [rounds_succ]
 go_wp2_with fail
 refine (unhide HC).mono ?_
 rintro ee u2 ⟨rfl,h2⟩
 have HM2:=hide ((unhide HM).join h2)
 have HGZ:=hide ((h2.kept g (lt_of_block' (unhide HG2)) hF).trans (unhide HG2))
 clear h2 HC HM
 obtain ⟨q0,q1,q2,q3,q4,q5⟩:=row6' (unhide HGZ)
 go_wp2
 rw [rounds_succ]
 go_wp2
 rw [rounds_succ]
 go_wp2
 go_end0
 exact ⟨rfl,((unhide HM2).alloc _)⟩
set_option maxHeartbeats 4000000 in
theorem reply_third (h:Mx w0 P w B m) (g cap:Nat) (hg:w.heap[g]?=some (.cells #[.int .u16 2,(.func (.func 255) #[] #[]),.int .u16 5,(.func (.func 256) #[] #[]),.int .u16 6,(.func (.func 257) #[] #[])] 299 (0,0))) (hF:¬ Foot B m g) (rep:Bool) (xid cl yo ne d0 d1 d2 d3 d4 d5:Int) (sa:Option Addr) (sn sc:Nat) (sv:Int) (R:World→Prop) (hRs:∀ u u',R u→Below u.heap.size u u'→R u') (hR:R w) (hA:ActsR R 257 #[.pointer (some ⟨B,0,none⟩),.agg #[.bool rep,.int .u32 xid,.int .u32 cl,.int .u32 yo,.int .u32 ne,.int .u8 d0,.int .u8 d1,.int .u8 d2,.int .u8 d3,.int .u8 d4,.int .u8 d5,.slice sa sn sc,.int .u32 sv]] B m m') :
  Calls Tryz.prog 216 #[.pointer (some ⟨B,0,none⟩),.slice (some ⟨g,0,none⟩) 3 cap,.int .u16 6,.agg #[.bool rep,.int .u32 xid,.int .u32 cl,.int .u32 yo,.int .u32 ne,.int .u8 d0,.int .u8 d1,.int .u8 d2,.int .u8 d3,.int .u8 d4,.int .u8 d5,.slice sa sn sc,.int .u32 sv]] w fun ee w'=>ee=.returned (.tuple #[])∧Mx w0 P w' B m':=by
 have hl:=lt_of_block' hg
 have HG0:=hide ((Below.heap_alloc w (.cells #[.bool rep,.int .u32 xid,.int .u32 cl,.int .u32 yo,.int .u32 ne,.int .u8 d0,.int .u8 d1,.int .u8 d2,.int .u8 d3,.int .u8 d4,.int .u8 d5,.slice sa sn sc,.int .u32 sv] 262) g (by have:=hl; simp; omega)).trans hg)
 have HG1:=hide ((Below.heap_alloc (w.alloc (.cells #[.bool rep,.int .u32 xid,.int .u32 cl,.int .u32 yo,.int .u32 ne,.int .u8 d0,.int .u8 d1,.int .u8 d2,.int .u8 d3,.int .u8 d4,.int .u8 d5,.slice sa sn sc,.int .u32 sv] 262)) (.cells #[.int .u16 2,(.func (.func 255) #[] #[])] 299) g (by have:=hl; simp; omega)).trans (unhide HG0))
 have HG2:=hide ((Below.heap_alloc ((w.alloc (.cells #[.bool rep,.int .u32 xid,.int .u32 cl,.int .u32 yo,.int .u32 ne,.int .u8 d0,.int .u8 d1,.int .u8 d2,.int .u8 d3,.int .u8 d4,.int .u8 d5,.slice sa sn sc,.int .u32 sv] 262)).alloc (.cells #[.int .u16 2,(.func (.func 255) #[] #[])] 299)) (.cells #[.int .u16 5,(.func (.func 256) #[] #[])] 299) g (by have:=hl; simp; omega)).trans (unhide HG1))
 have HG3:=hide ((Below.heap_alloc (((w.alloc (.cells #[.bool rep,.int .u32 xid,.int .u32 cl,.int .u32 yo,.int .u32 ne,.int .u8 d0,.int .u8 d1,.int .u8 d2,.int .u8 d3,.int .u8 d4,.int .u8 d5,.slice sa sn sc,.int .u32 sv] 262)).alloc (.cells #[.int .u16 2,(.func (.func 255) #[] #[])] 299)).alloc (.cells #[.int .u16 5,(.func (.func 256) #[] #[])] 299)) (.cells #[.int .u16 6,(.func (.func 257) #[] #[])] 299) g (by have:=hl; simp; omega)).trans (unhide HG2))
 obtain ⟨p0_0,p0_1,p0_2,p0_3,p0_4,p0_5⟩:=row6' (unhide HG0)
 obtain ⟨p1_0,p1_1,p1_2,p1_3,p1_4,p1_5⟩:=row6' (unhide HG1)
 obtain ⟨p2_0,p2_1,p2_2,p2_3,p2_4,p2_5⟩:=row6' (unhide HG2)
 have HX0:Hid ((w.alloc (.cells #[.bool rep,.int .u32 xid,.int .u32 cl,.int .u32 yo,.int .u32 ne,.int .u8 d0,.int .u8 d1,.int .u8 d2,.int .u8 d3,.int .u8 d4,.int .u8 d5,.slice sa sn sc,.int .u32 sv] 262)).heap[w.heap.size]?=some (.cells #[.bool rep,.int .u32 xid,.int .u32 cl,.int .u32 yo,.int .u32 ne,.int .u8 d0,.int .u8 d1,.int .u8 d2,.int .u8 d3,.int .u8 d4,.int .u8 d5,.slice sa sn sc,.int .u32 sv] 262 (0,0))):=hide (heap_alloc_new w _)
 have HX1:=hide ((Below.heap_alloc (w.alloc (.cells #[.bool rep,.int .u32 xid,.int .u32 cl,.int .u32 yo,.int .u32 ne,.int .u8 d0,.int .u8 d1,.int .u8 d2,.int .u8 d3,.int .u8 d4,.int .u8 d5,.slice sa sn sc,.int .u32 sv] 262)) (.cells #[.int .u16 2,(.func (.func 255) #[] #[])] 299) w.heap.size (by simp <;> omega)).trans (unhide HX0))
 have HX2:=hide ((Below.heap_alloc ((w.alloc (.cells #[.bool rep,.int .u32 xid,.int .u32 cl,.int .u32 yo,.int .u32 ne,.int .u8 d0,.int .u8 d1,.int .u8 d2,.int .u8 d3,.int .u8 d4,.int .u8 d5,.slice sa sn sc,.int .u32 sv] 262)).alloc (.cells #[.int .u16 2,(.func (.func 255) #[] #[])] 299)) (.cells #[.int .u16 5,(.func (.func 256) #[] #[])] 299) w.heap.size (by simp <;> omega)).trans (unhide HX1))
 have HX3:=hide ((Below.heap_alloc (((w.alloc (.cells #[.bool rep,.int .u32 xid,.int .u32 cl,.int .u32 yo,.int .u32 ne,.int .u8 d0,.int .u8 d1,.int .u8 d2,.int .u8 d3,.int .u8 d4,.int .u8 d5,.slice sa sn sc,.int .u32 sv] 262)).alloc (.cells #[.int .u16 2,(.func (.func 255) #[] #[])] 299)).alloc (.cells #[.int .u16 5,(.func (.func 256) #[] #[])] 299)) (.cells #[.int .u16 6,(.func (.func 257) #[] #[])] 299) w.heap.size (by simp <;> omega)).trans (unhide HX2))
 obtain ⟨x0,x1,x2,x3,x4,x5,x6,x7,x8,x9,x10,x11,x12⟩:=row13' (unhide HX3)
 have HM:=hide ((((h.alloc (.cells #[.bool rep,.int .u32 xid,.int .u32 cl,.int .u32 yo,.int .u32 ne,.int .u8 d0,.int .u8 d1,.int .u8 d2,.int .u8 d3,.int .u8 d4,.int .u8 d5,.slice sa sn sc,.int .u32 sv] 262)).alloc (.cells #[.int .u16 2,(.func (.func 255) #[] #[])] 299)).alloc (.cells #[.int .u16 5,(.func (.func 256) #[] #[])] 299)).alloc (.cells #[.int .u16 6,(.func (.func 257) #[] #[])] 299))
 have HC:=hide (hA _ _ _ (unhide HM).base (hRs w _ hR (((((Below.refl w.heap.size w).alloc (by simp <;> omega) (.cells #[.bool rep,.int .u32 xid,.int .u32 cl,.int .u32 yo,.int .u32 ne,.int .u8 d0,.int .u8 d1,.int .u8 d2,.int .u8 d3,.int .u8 d4,.int .u8 d5,.slice sa sn sc,.int .u32 sv] 262)).alloc (by simp <;> omega) (.cells #[.int .u16 2,(.func (.func 255) #[] #[])] 299)).alloc (by simp <;> omega) (.cells #[.int .u16 5,(.func (.func 256) #[] #[])] 299)).alloc (by simp <;> omega) (.cells #[.int .u16 6,(.func (.func 257) #[] #[])] 299))))
 clear h hg hA hRs hR
 go_enter Tryz.func216,Tryz.ntmps216
 go_wp2
 refine wp_loop_rounds 4 ?_
 rw [rounds_succ]
 go_wp2
 rw [rounds_succ]
 go_wp2
 rw [rounds_succ]
 go_wp2_with fail
 refine (unhide HC).mono ?_
 rintro ee u2 ⟨rfl,h2⟩
 have HM2:=hide ((unhide HM).join h2)
 have HGZ:=hide ((h2.kept g (lt_of_block' (unhide HG3)) hF).trans (unhide HG3))
 clear h2 HC HM
 go_wp2
 rw [rounds_succ]
 go_wp2
 go_end0
 exact ⟨rfl,(unhide HM2)⟩
end Go.Proofs.YtbhbbeebncmaiaaGreatDoor.Mac
namespace Go.Proofs.YtbhbbeebncmaiaaGreatDoor.Mac
open Go.ChangeShapes Go.WideShapes Go.ChangeAt Go.RowKit Bs
set_option linter.unusedVariables false
set_option linter.unusedSimpArgs false
variable {w0 : World} {P : Nat → Prop} {w w' : World} {B Q : Nat} {m m' : Mc}
theorem offerCame_no (h:Mx w0 P w B m) (h1:m.st≠1) (rep:Bool) (xid cl yo ne d0 d1 d2 d3 d4 d5:Int) (sa:Option Addr) (sn sc:Nat) (sv:Int):Calls Tryz.prog 255 #[.pointer (some ⟨B,0,none⟩),.agg #[.bool rep,.int .u32 xid,.int .u32 cl,.int .u32 yo,.int .u32 ne,.int .u8 d0,.int .u8 d1,.int .u8 d2,.int .u8 d3,.int .u8 d4,.int .u8 d5,.slice sa sn sc,.int .u32 sv]] w fun ee w'=>ee=.returned (.tuple #[])∧Mx w0 P w' B m:=by
 have HM:=hide (h.alloc (.cells #[.bool rep,.int .u32 xid,.int .u32 cl,.int .u32 yo,.int .u32 ne,.int .u8 d0,.int .u8 d1,.int .u8 d2,.int .u8 d3,.int .u8 d4,.int .u8 d5,.slice sa sn sc,.int .u32 sv] 262))
 have c25:=h.c25
 have hB:=h.lt
 have hne:B≠w.heap.size:=Nat.ne_of_lt hB
 have e1:(m.st==1)=false:=by simpa using h1
 have f1:(m.st != 1)=true:=by simpa using h1
 clear h
 go_enter Tryz.func255,Tryz.ntmps255
 go_wp2
 go_returns
 exact ⟨rfl,unhide HM⟩
theorem ackCame_no (h:Mx w0 P w B m) (h2:m.st≠2) (h5:m.st≠5) (h6:m.st≠6) (rep:Bool) (xid cl yo ne d0 d1 d2 d3 d4 d5:Int) (sa:Option Addr) (sn sc:Nat) (sv:Int):Calls Tryz.prog 256 #[.pointer (some ⟨B,0,none⟩),.agg #[.bool rep,.int .u32 xid,.int .u32 cl,.int .u32 yo,.int .u32 ne,.int .u8 d0,.int .u8 d1,.int .u8 d2,.int .u8 d3,.int .u8 d4,.int .u8 d5,.slice sa sn sc,.int .u32 sv]] w fun ee w'=>ee=.returned (.tuple #[])∧Mx w0 P w' B m:=by
 have HM:=hide (h.alloc (.cells #[.bool rep,.int .u32 xid,.int .u32 cl,.int .u32 yo,.int .u32 ne,.int .u8 d0,.int .u8 d1,.int .u8 d2,.int .u8 d3,.int .u8 d4,.int .u8 d5,.slice sa sn sc,.int .u32 sv] 262))
 have c25:=h.c25
 have hB:=h.lt
 have hne:B≠w.heap.size:=Nat.ne_of_lt hB
 have e2:(m.st==2)=false:=by simpa using h2
 have f2:(m.st != 2)=true:=by simpa using h2
 have e5:(m.st==5)=false:=by simpa using h5
 have f5:(m.st != 5)=true:=by simpa using h5
 have e6:(m.st==6)=false:=by simpa using h6
 have f6:(m.st != 6)=true:=by simpa using h6
 clear h
 go_enter Tryz.func256,Tryz.ntmps256
 go_wp2
 go_returns
 exact ⟨rfl,unhide HM⟩
theorem nakCame_no (h:Mx w0 P w B m) (h2:m.st≠2) (h4:m.st≠4) (h5:m.st≠5) (h6:m.st≠6) (rep:Bool) (xid cl yo ne d0 d1 d2 d3 d4 d5:Int) (sa:Option Addr) (sn sc:Nat) (sv:Int):Calls Tryz.prog 257 #[.pointer (some ⟨B,0,none⟩),.agg #[.bool rep,.int .u32 xid,.int .u32 cl,.int .u32 yo,.int .u32 ne,.int .u8 d0,.int .u8 d1,.int .u8 d2,.int .u8 d3,.int .u8 d4,.int .u8 d5,.slice sa sn sc,.int .u32 sv]] w fun ee w'=>ee=.returned (.tuple #[])∧Mx w0 P w' B m:=by
 have HM:=hide (h.alloc (.cells #[.bool rep,.int .u32 xid,.int .u32 cl,.int .u32 yo,.int .u32 ne,.int .u8 d0,.int .u8 d1,.int .u8 d2,.int .u8 d3,.int .u8 d4,.int .u8 d5,.slice sa sn sc,.int .u32 sv] 262))
 have c25:=h.c25
 have hB:=h.lt
 have hne:B≠w.heap.size:=Nat.ne_of_lt hB
 have e2:(m.st==2)=false:=by simpa using h2
 have f2:(m.st != 2)=true:=by simpa using h2
 have e4:(m.st==4)=false:=by simpa using h4
 have f4:(m.st != 4)=true:=by simpa using h4
 have e5:(m.st==5)=false:=by simpa using h5
 have f5:(m.st != 5)=true:=by simpa using h5
 have e6:(m.st==6)=false:=by simpa using h6
 have f6:(m.st != 6)=true:=by simpa using h6
 clear h
 go_enter Tryz.func257,Tryz.ntmps257
 go_wp2
 go_returns
 exact ⟨rfl,unhide HM⟩
end Go.Proofs.YtbhbbeebncmaiaaGreatDoor.Mac
