import Derived.Test.YtbhbbeebncmaiaaGreatDoorMgZ29
import Derived.Test.YtbhbbeebncmaiaaGreatDoorMgZ08
import Derived.Test.YtbhbbeebncmaiaaGreatDoorMgZ11
import Derived.Test.YtbhbbeebncmaiaaGreatDoorMgZ13
import Derived.Test.YtbhbbeebncmaiaaGreatDoorMgZ12
import Derived.Test.YtbhbbeebncmaiaaGreatDoorMgZ23
import Derived.Test.YtbhbbeebncmaiaaGreatDoorMgZ07
import Derived.Test.YtbhbbeebncmaiaaGreatDoorMgZ46
import Derived.Test.YtbhbbeebncmaiaaGreatDoorMgZ14
namespace Go.Proofs.YtbhbbeebncmaiaaGreatDoor.Ref
open Go.ChangeShapes Go.WideShapes Go.ChangeAt Go.RowKit Bs Mac
set_option linter.unusedVariables false
set_option linter.unusedSimpArgs false
variable {w0 : World} {P : Nat → Prop} {w w' : World} {G : Nat} {r r' : Rf}
theorem rm_new {w u:World} {c:Array Value} {r:Rf} {g:Nat} (hb:Below w.heap.size w u) (hG:g=u.heap.size) (hc:c=r.cells) (e1:r.rv=.slice none 0 0) (e2:r.tv=.slice none 0 0) (e3:r.rl=[]) (e4:r.tl=[]) (hng:9≤w.heap.size) (hgl:Gr w):Rm w (fun _=>False) (u.alloc (.cells c 57)) g r:=by
 subst hG hc
 exact
 {os:=hb.os,tape:=hb.tape,output:=hb.output
  size:=by have:=hb.size; simp; omega
  kept:=fun k hk _=>(Below.heap_alloc u _ k (by have:=hb.size; omega)).trans (hb.block k hk)
  own:=fun k hk=>by
   rcases hk with rfl | hk | hk
   ·exact Or.inr hb.size
   ·rw [e1] at hk; cases hk
   ·rw [e2] at hk; cases hk
  low:=⟨hng,fun k hk=>hk.elim⟩,gl:=hgl
  row:=heap_alloc_new u _
  came:=by rw [e1,e3]; exact World.ownsRow_nil _ _ _ _
  goes:=by rw [e2,e4]; exact World.ownsRow_nil _ _ _ _
  apart:=fun k hk=>by rw [e1] at hk; cases hk }
theorem own_sl {w:World} {base n size:Nat} {e:TypeId} {v:Value} {xs:List Value} (h:w.ownsRow base e size v n xs):∃ ao cp,v=.slice ao n cp:=by
 rcases h.2 with ⟨rfl,rfl⟩ | ⟨g,cap,cur,rfl,_⟩
 ·exact ⟨none,0,rfl⟩
 ·exact ⟨some ⟨g,0,none⟩,cap,rfl⟩
theorem own_some {w:World} {base n size:Nat} {e:TypeId} {v:Value} {xs:List Value} (h:w.ownsRow base e size v n xs) (hn:0<n):∃ g cp,v=.slice (some ⟨g,0,none⟩) n cp∧n≤cp∧cp≤maxLen∧∀ j x,xs[j]?=some x→w.cell? ⟨g,j,none⟩=some x:=by
 have h':=h
 rcases h.2 with ⟨rfl,rfl⟩ | ⟨g,cap,cur,rfl,a,b,c,d,_⟩
 ·exact absurd hn (by omega)
 ·refine ⟨g,cap,rfl,c,d,fun j x hj=>?_⟩
  have:=h'.cells (g:=g) rfl j x hj
  rwa [show (⟨g,0,none⟩:Addr).add j=⟨g,j,none⟩ from by simp [Addr.add_lit]] at this
theorem Rm.after (h:Rm w0 P w G r) {o:Option Nat} (hg:w.grownBy w' o) (ho:o=none∨o=r.rv.ownBlock∨o=r.tv.ownBlock):w'.heap[G]?=w.heap[G]? :=
 hg.block G h.lt (by
  rintro e
  rcases ho with ho | ho | ho
  ·rw [ho] at e; cases e
  ·exact h.ne_rv (k:=G) (by rw [← ho,← e]) rfl
  ·exact h.ne_tv (k:=G) (by rw [← ho,← e]) rfl)

def Rf.putV (r:Rf) (s:ByteArray) (v:Value):Rf:={ r with rv:=v,rl:=r.rl++[s] }
theorem put_full (h:Rm w0 P w G r) (s:ByteArray) (hr:r.rl.length=r.rx):Calls Tryz.prog 18 #[.pointer (some ⟨G,0,none⟩),.string s] w fun ee w'=>ee=.returned (.bool false)∧Rm w0 P w' G r:=by
 obtain ⟨ao,cp,hv⟩:=own_sl h.came
 have c12:=h.c12
 have c14:=h.c14
 rw [hv] at c14
 have HM:=hide h
 have hq:((r.rl.length:Int)==(r.rx:Int))=true:=by simp [hr]
 clear h hv
 go_enter Tryz.func18,Tryz.ntmps18
 go_wp2
 go_quiet (fail)
 go_wp2
 go_ret
 exact ⟨rfl,(unhide HM).like ⟨rfl,rfl,rfl,rfl⟩⟩
set_option maxHeartbeats 2000000 in
set_option maxRecDepth 10000 in
theorem put_room (h:Rm w0 P w G r) (s:ByteArray) (hr:r.rl.length<r.rx) (hx:r.rx≤16):Calls Tryz.prog 18 #[.pointer (some ⟨G,0,none⟩),.string s] w fun ee w'=>ee=.returned (.bool true)∧∃ v,Rm w0 P w' G (r.putV s v):=by
 obtain ⟨i0,hi,hz0,hz1,hz2⟩:=info_parts infoS
 obtain ⟨ao,cp,hv⟩:=own_sl h.came
 have c12:=h.c12
 have c14:=h.c14
 have f14:=h.free 14
 have HV:=hide hv
 rw [hv] at c14
 have HM:=hide h
 have hq:((r.rl.length:Int)==(r.rx:Int))=false:=by rw [beq_eq_false_iff_ne]; omega
 have hlen:r.rl.length≤16:=by omega
 clear h hv hr hx
 go_enter Tryz.func18,Tryz.ntmps18
 go_wp2
 go_quiet (fail)
 obtain ⟨u,hu⟩:∃ u,u=w.drewN nq:=⟨_,rfl⟩
 have HMu:Hid (Rm w0 P u G r):=hide (by rw [hu]; exact (unhide HM).like ⟨rfl,rfl,rfl,rfl⟩)
 rw [← hu]
 have d14:=(unhide HMu).c14
 rw [unhide HV] at d14
 have g14:=(unhide HMu).free 14
 clear hu c12 c14 f14 HM
 go_wp2_with (at_builtin; refine wpList_append_mine rfl (.tmp 20) (.tmp 22) 49 rfl 0 9 i0 (.string ⟨#[]⟩) 1 16 Tryz.underlying49 hi hz0 hz1 hz2 rfl (by decide) r.rv r.rl.length (strs r.rl) ?ev ((unhide HMu).came.alloc _) ⟨u.heap.size,0,none⟩ 1 1 [.string s] ?ad rfl ?c1 ?one ?h63 ?hby ?hba ?_)
 case ev=>rw [unhide HV]; rfl
 case ad=>rfl
 case c1=>exact cell_new u [.string s] 9
 case one=>intro x hx; simp at hx; subst hx; rfl
 case h63=>simp only [maxLen]; omega
 case hby=>omega
 case hba=>exact Nat.zero_le _
 intro v' w2 hown hg hf
 have HA:=(unhide HMu).alloc (.cells #[.string s] 9)
 have hrow:=HA.after hg (Or.inr (Or.inl rfl))
 have e14:=(World.cell?_of_block (w:=u.alloc (.cells #[.string s] 9)) (a:=⟨G,14,none⟩) hrow).trans HA.c14
 have k14:=(World.frozen?_of_block (w:=u.alloc (.cells #[.string s] 9)) (a:=⟨G,14,none⟩) hrow).trans (HA.free 14)
 have HN:=hide (HA.rows (r':=r.putV s v') (l:=r.rl++[s]) hg (Or.inr rfl) (by
  have e1:(r.rl++[s]).length=r.rl.length+1:=by simp
  have e2:strs (r.rl++[s])=strs r.rl++[.string s]:=by simp [strs]
  rw [e1,e2]; exact hown) (by
   rcases hf with h | h
   ·exact Or.inr (Or.inl h)
   ·obtain ⟨g,a,b⟩:=h
    exact Or.inr (Or.inr ⟨g,a,by simpa using b⟩)) rfl rfl rfl rfl rfl)
 obtain ⟨a2,c2,hv2⟩:=own_sl hown
 clear hown hg hf HA hrow d14 g14
 subst hv2
 go_wp2
 go_ret
 exact ⟨rfl,_,unhide HN⟩
theorem over_any (h:Rm w0 P w G r) (hp:r.phase=0):Calls Tryz.prog 37 #[.pointer (some ⟨G,0,none⟩)] w fun ee w'=>ee=.returned (.bool false)∧w'=w:=by
 have c34:=h.c34
 rw [hp] at c34
 clear h
 go_enter Tryz.func37,Tryz.ntmps37
 go_wp2
 go_ret
 exact ⟨rfl,rfl⟩
theorem take_none (h:Rm w0 P w G r) (ht:r.tl=[]):Calls Tryz.prog 20 #[.pointer (some ⟨G,0,none⟩)] w fun ee w'=>ee=.returned (.tuple #[.string ⟨#[]⟩,.bool false])∧w'=w:=by
 obtain ⟨ao,cp,hv⟩:=own_sl h.goes
 have c15:=h.c15
 rw [hv,ht] at c15
 clear h hv ht
 go_enter Tryz.func20,Tryz.ntmps20
 go_wp2
 go_ret2
 exact ⟨rfl,rfl⟩
def Rf.cameV (r:Rf) (k:Nat) (v:Value):Rf:={ r with rv:=v,rl:=r.rl.drop k }
def DullR (G:Nat) (r:Rf):Prop:=∀ (w0:World) (P:Nat→Prop) (w:World) (k:Nat) (v:Value) (s:ByteArray),s ∈ r.rl→Rm w0 P w G (r.cameV k v)→Calls Tryz.prog 44 #[.pointer (some ⟨G,0,none⟩),.string s] w fun ee w'=>ee=.returned (.tuple #[])∧Rm w0 P w' G (r.cameV k v)
end Go.Proofs.YtbhbbeebncmaiaaGreatDoor.Ref
namespace Go.Proofs.YtbhbbeebncmaiaaGreatDoor.Mac
open Go.ChangeShapes Go.WideShapes Go.ChangeAt Go.RowKit Bs
set_option linter.unusedVariables false
set_option linter.unusedSimpArgs false
variable {w0 : World} {P : Nat → Prop} {w w' : World} {B Q : Nat} {m m' : Mc}
theorem row12 {u:World} {g:Nat} {t:TypeId} {b0 b1 b2 b3 b4 b5 b6 b7 b8 b9 b10 b11:Value} (h:u.heap[g]?=some (.cells #[b0,b1,b2,b3,b4,b5,b6,b7,b8,b9,b10,b11] t (0,0))) :
  u.cell? ⟨g,0,none⟩=some b0∧u.cell? ⟨g,1,none⟩=some b1∧u.cell? ⟨g,2,none⟩=some b2∧u.cell? ⟨g,3,none⟩=some b3∧u.cell? ⟨g,4,none⟩=some b4∧u.cell? ⟨g,5,none⟩=some b5∧u.cell? ⟨g,6,none⟩=some b6∧u.cell? ⟨g,7,none⟩=some b7∧u.cell? ⟨g,8,none⟩=some b8∧u.cell? ⟨g,9,none⟩=some b9∧u.cell? ⟨g,10,none⟩=some b10∧u.cell? ⟨g,11,none⟩=some b11:=by
 have q:=fun j=>cell_of_row u g j _ _ _ h
 exact ⟨q 0,q 1,q 2,q 3,q 4,q 5,q 6,q 7,q 8,q 9,q 10,q 11⟩
theorem dhcpCame_no (h:Mx w0 P w B m) (load:ByteArray) (k:Int) (hk:k≠0)
  (hR:∀ u,Calls Tryz.prog 213 #[.string load] u fun e w'=>e=.returned (.tuple #[.agg #[.bool false,.int .u32 0,.int .u32 0,.int .u32 0,.int .u32 0,.int .u8 0,.int .u8 0,.int .u8 0,.int .u8 0,.int .u8 0,.int .u8 0,.slice none 0 0],.int .i64 k])∧Below u.heap.size u w') :
  Calls Tryz.prog 175 #[.pointer (some ⟨B,0,none⟩),.string load] w fun ee w'=>ee=.returned (.tuple #[])∧Mx w0 P w' B m:=by
 have HR:=hide (hR w)
 have HM:=hide h
 have hkk:(k != 0)=true:=by simpa using hk
 clear hR h hk
 go_enter Tryz.func175,Tryz.ntmps175
 go_wp2_with fail
 refine (unhide HR).mono ?_
 rintro ee u1 ⟨rfl,hb1⟩
 have HM1:=hide (((unhide HM).below hb1).alloc (.cells #[.bool false,.int .u32 0,.int .u32 0,.int .u32 0,.int .u32 0,.int .u8 0,.int .u8 0,.int .u8 0,.int .u8 0,.int .u8 0,.int .u8 0,.slice none 0 0] 127))
 clear hb1 HR HM
 go_wp2
 go_quiet (fail)
 go_wp2
 go_returns
 exact ⟨rfl,(unhide HM1).like ⟨rfl,rfl,rfl,rfl⟩⟩
def forMe (m:Mc) (rep:Bool) (xid d0 d1 d2 d3 d4 d5:Int):Bool:=rep&&xid==m.xid&&(d0==(m.k0.toNat:Int)&&d1==(m.k1.toNat:Int)&&d2==(m.k2.toNat:Int)&&d3==(m.k3.toNat:Int)&&d4==(m.k4.toNat:Int)&&d5==(m.k5.toNat:Int))
theorem replyHands_mx {u:World} (h:Mx w0 P u B m) (b:Nat) (o:Obj) (hr:u.heap[b]?=some o) (sa:Option Addr) (os:Dh.Opts) (hA:Dh.At u sa os):Calls Tryz.prog 217 #[] u fun e w'=>∃ g,e=.returned (.slice (some ⟨g,0,none⟩) 3 3)∧Hid (Mx w0 P w' B m)∧Hid (w'.heap[b]?=some o)∧Hid (w'.heap[g]?=some (.cells #[.int .u16 2,(.func (.func 255) #[] #[]),.int .u16 5,(.func (.func 256) #[] #[]),.int .u16 6,(.func (.func 257) #[] #[])] 299 (0,0)))∧Hid (¬ Foot B m g)∧Hid (Dh.At w' sa os):=by
 refine (replyHands_any u).mono ?_
 rintro e w' ⟨rfl,rfl⟩
 exact ⟨_,rfl,hide (h.alloc _),hide ((Below.heap_alloc u _ b (lt_of_block' hr)).trans hr),hide (heap_alloc_new u _),hide (fun hf=>Nat.lt_irrefl _ (h.foot_lt hf)),hide (hA.below ((Below.refl u.heap.size u).alloc (Nat.le_refl _) _) (Nat.le_refl _))⟩
theorem addr_any (os:Dh.Opts) (cd:UInt8) (hh:Dh.heavy os≤268435456):∃ (x:Int) (b:Bool),(∀ sa sc w,Dh.At w sa os→Calls Tryz.prog 215 #[.slice sa os.length sc,.int .u8 cd.toNat] w fun ee w'=>ee=.returned (.tuple #[.int .u32 x,.bool b])∧Below w.heap.size w w')∧((b=true∧∃ s0 s1 s2 s3,Dh.data os cd=[s0,s1,s2,s3]∧x=(16777216*(s0.toNat:Int)+65536*(s1.toNat:Int)+256*(s2.toNat:Int)+(s3.toNat:Int)))∨(b=false∧(Dh.data os cd).length≠4)):=by
 by_cases hl:(Dh.data os cd).length=4
 ·obtain ⟨s0,s1,s2,s3,hd⟩:∃ s0 s1 s2 s3,Dh.data os cd=[s0,s1,s2,s3]:=by
   match Dh.data os cd,hl with
   | [s0,s1,s2,s3],_=>exact ⟨s0,s1,s2,s3,rfl⟩
  exact ⟨_,true,fun sa sc w hA=>Opt.opt_okA sa sc os cd s0 s1 s2 s3 w hA hh hd,Or.inl ⟨rfl,s0,s1,s2,s3,hd,rfl⟩⟩
 ·exact ⟨0,false,fun sa sc w hA=>Opt.opt_noA sa sc os cd w hA hh hl,Or.inr ⟨rfl,hl⟩⟩
theorem byte_any (os:Dh.Opts) (cd:UInt8) (hh:Dh.heavy os≤268435456):∃ (x:UInt8) (b:Bool),(∀ sa sc w,Dh.At w sa os→Calls Tryz.prog 214 #[.slice sa os.length sc,.int .u8 cd.toNat] w fun ee w'=>ee=.returned (.tuple #[.int .u8 x.toNat,.bool b])∧Below w.heap.size w w')∧((b=true∧Dh.data os cd=[x])∨(b=false∧(Dh.data os cd).length≠1)):=by
 by_cases hl:(Dh.data os cd).length=1
 ·obtain ⟨a,hd⟩:∃ a,Dh.data os cd=[a]:=by
   match Dh.data os cd,hl with
   | [a],_=>exact ⟨a,rfl⟩
  exact ⟨a,true,fun sa sc w hA=>Opt.opt_okB sa sc os cd a w hA hh hd,Or.inl ⟨rfl,hd⟩⟩
 ·exact ⟨0,false,fun sa sc w hA=>Opt.opt_noB sa sc os cd w hA hh hl,Or.inr ⟨rfl,hl⟩⟩
theorem reply_any (h:Mx w0 P w B m) (g cap:Nat) (hg:w.heap[g]?=some (.cells #[.int .u16 2,(.func (.func 255) #[] #[]),.int .u16 5,(.func (.func 256) #[] #[]),.int .u16 6,(.func (.func 257) #[] #[])] 299 (0,0))) (hF:¬ Foot B m g) (kd:Int) (rep:Bool) (xid cl yo ne d0 d1 d2 d3 d4 d5:Int) (sa:Option Addr) (os:Dh.Opts) (sc:Nat) (sv:Int) (hAt:Dh.At w sa os)
  (hO:kd=2→ActsR (fun u=>Dh.At u sa os) 255 #[.pointer (some ⟨B,0,none⟩),.agg #[.bool rep,.int .u32 xid,.int .u32 cl,.int .u32 yo,.int .u32 ne,.int .u8 d0,.int .u8 d1,.int .u8 d2,.int .u8 d3,.int .u8 d4,.int .u8 d5,.slice sa os.length sc,.int .u32 sv]] B m m')
  (hA:kd=5→ActsR (fun u=>Dh.At u sa os) 256 #[.pointer (some ⟨B,0,none⟩),.agg #[.bool rep,.int .u32 xid,.int .u32 cl,.int .u32 yo,.int .u32 ne,.int .u8 d0,.int .u8 d1,.int .u8 d2,.int .u8 d3,.int .u8 d4,.int .u8 d5,.slice sa os.length sc,.int .u32 sv]] B m m')
  (hN:kd=6→ActsR (fun u=>Dh.At u sa os) 257 #[.pointer (some ⟨B,0,none⟩),.agg #[.bool rep,.int .u32 xid,.int .u32 cl,.int .u32 yo,.int .u32 ne,.int .u8 d0,.int .u8 d1,.int .u8 d2,.int .u8 d3,.int .u8 d4,.int .u8 d5,.slice sa os.length sc,.int .u32 sv]] B m m')
  (h0:kd≠2→kd≠5→kd≠6→m'=m) :
  Calls Tryz.prog 216 #[.pointer (some ⟨B,0,none⟩),.slice (some ⟨g,0,none⟩) 3 cap,.int .u16 kd,.agg #[.bool rep,.int .u32 xid,.int .u32 cl,.int .u32 yo,.int .u32 ne,.int .u8 d0,.int .u8 d1,.int .u8 d2,.int .u8 d3,.int .u8 d4,.int .u8 d5,.slice sa os.length sc,.int .u32 sv]] w fun ee w'=>ee=.returned (.tuple #[])∧Mx w0 P w' B m':=by
 have st:∀ u u',Dh.At u sa os→Below u.heap.size u u'→Dh.At u' sa os:=fun u u' h hb=>h.below hb (Nat.le_refl _)
 by_cases k1:kd=2
 ·subst k1
  exact reply_first h g cap hg hF rep xid cl yo ne d0 d1 d2 d3 d4 d5 sa os.length sc sv (fun u=>Dh.At u sa os) st hAt (hO rfl)
 ·by_cases k2:kd=5
  ·subst k2
   exact reply_second h g cap hg hF rep xid cl yo ne d0 d1 d2 d3 d4 d5 sa os.length sc sv (fun u=>Dh.At u sa os) st hAt (hA rfl)
  ·by_cases k3:kd=6
   ·subst k3
    exact reply_third h g cap hg hF rep xid cl yo ne d0 d1 d2 d3 d4 d5 sa os.length sc sv (fun u=>Dh.At u sa os) st hAt (hN rfl)
   ·rw [h0 k1 k2 k3]
    exact reply_none h g cap hg hF kd rep xid cl yo ne d0 d1 d2 d3 d4 d5 sa os.length sc sv k1 k2 k3
set_option maxHeartbeats 4000000 in
set_option maxRecDepth 20000 in
theorem dhcpCame_via (h:Mx w0 P w B m) (load:ByteArray) (rep:Bool) (xid cl yo ne d0 d1 d2 d3 d4 d5:Int) (os:Dh.Opts) (hh:Dh.heavy os≤268435456)
  (hR:∀ u,Calls Tryz.prog 213 #[.string load] u fun ee w'=>DhR.OutP os.length (Dh.cellsO os) u (fun sa sc=>.tuple #[.agg #[.bool rep,.int .u32 xid,.int .u32 cl,.int .u32 yo,.int .u32 ne,.int .u8 d0,.int .u8 d1,.int .u8 d2,.int .u8 d3,.int .u8 d4,.int .u8 d5,.slice sa os.length sc],.int .i64 0]) ee w')
  (h0:forMe m rep xid d0 d1 d2 d3 d4 d5=false∨(Dh.data os 53).length≠1∨(Dh.data os 54).length≠4→m'=m)
  (h1:∀ b s0 s1 s2 s3,forMe m rep xid d0 d1 d2 d3 d4 d5=true→Dh.data os 53=[b]→Dh.data os 54=[s0,s1,s2,s3]→((b.toNat:Int)≠2→(b.toNat:Int)≠5→(b.toNat:Int)≠6→m'=m)∧∀ sa sc,((b.toNat:Int)=2→ActsR (fun u=>Dh.At u sa os) 255 #[.pointer (some ⟨B,0,none⟩),.agg #[.bool rep,.int .u32 xid,.int .u32 cl,.int .u32 yo,.int .u32 ne,.int .u8 d0,.int .u8 d1,.int .u8 d2,.int .u8 d3,.int .u8 d4,.int .u8 d5,.slice sa os.length sc,.int .u32 (16777216*(s0.toNat:Int)+65536*(s1.toNat:Int)+256*(s2.toNat:Int)+(s3.toNat:Int))]] B m m')∧((b.toNat:Int)=5→ActsR (fun u=>Dh.At u sa os) 256 #[.pointer (some ⟨B,0,none⟩),.agg #[.bool rep,.int .u32 xid,.int .u32 cl,.int .u32 yo,.int .u32 ne,.int .u8 d0,.int .u8 d1,.int .u8 d2,.int .u8 d3,.int .u8 d4,.int .u8 d5,.slice sa os.length sc,.int .u32 (16777216*(s0.toNat:Int)+65536*(s1.toNat:Int)+256*(s2.toNat:Int)+(s3.toNat:Int))]] B m m')∧((b.toNat:Int)=6→ActsR (fun u=>Dh.At u sa os) 257 #[.pointer (some ⟨B,0,none⟩),.agg #[.bool rep,.int .u32 xid,.int .u32 cl,.int .u32 yo,.int .u32 ne,.int .u8 d0,.int .u8 d1,.int .u8 d2,.int .u8 d3,.int .u8 d4,.int .u8 d5,.slice sa os.length sc,.int .u32 (16777216*(s0.toNat:Int)+65536*(s1.toNat:Int)+256*(s2.toNat:Int)+(s3.toNat:Int))]] B m m')) :
  Calls Tryz.prog 175 #[.pointer (some ⟨B,0,none⟩),.string load] w fun ee w'=>ee=.returned (.tuple #[])∧Mx w0 P w' B m':=by
 have HR:=hide (hR w)
 have HM:=hide h
 have hq:=fun u=>mac_eq d0 d1 d2 d3 d4 d5 m.k0.toNat m.k1.toNat m.k2.toNat m.k3.toNat m.k4.toNat m.k5.toNat u
 have HTM:Hid (forMe m rep xid d0 d1 d2 d3 d4 d5=(rep&&xid==m.xid&&(d0==(m.k0.toNat:Int)&&d1==(m.k1.toNat:Int)&&d2==(m.k2.toNat:Int)&&d3==(m.k3.toNat:Int)&&d4==(m.k4.toNat:Int)&&d5==(m.k5.toNat:Int)))):=hide rfl
 generalize (d0==(m.k0.toNat:Int)&&d1==(m.k1.toNat:Int)&&d2==(m.k2.toNat:Int)&&d3==(m.k3.toNat:Int)&&d4==(m.k4.toNat:Int)&&d5==(m.k5.toNat:Int))=b1 at hq HTM
 have H0:=hide h0
 have H1:=hide h1
 have HH:=hide hh
 clear hR h h0 h1 hh
 go_enter Tryz.func175,Tryz.ntmps175
 go_wp2_with fail
 refine (unhide HR).mono ?_
 rintro ee u1 ⟨sa,sc,rfl,hown,hb1⟩
 have HNF:¬ Foot B m u1.heap.size:=fun hf=>Nat.lt_irrefl _ (((unhide HM).below hb1).foot_lt hf)
 have HM1:=hide (((unhide HM).below hb1).alloc (.cells #[.bool rep,.int .u32 xid,.int .u32 cl,.int .u32 yo,.int .u32 ne,.int .u8 d0,.int .u8 d1,.int .u8 d2,.int .u8 d3,.int .u8 d4,.int .u8 d5,.slice sa os.length sc] 127))
 have HR1:Hid ((u1.alloc (.cells #[.bool rep,.int .u32 xid,.int .u32 cl,.int .u32 yo,.int .u32 ne,.int .u8 d0,.int .u8 d1,.int .u8 d2,.int .u8 d3,.int .u8 d4,.int .u8 d5,.slice sa os.length sc] 127)).heap[u1.heap.size]?=some (.cells #[.bool rep,.int .u32 xid,.int .u32 cl,.int .u32 yo,.int .u32 ne,.int .u8 d0,.int .u8 d1,.int .u8 d2,.int .u8 d3,.int .u8 d4,.int .u8 d5,.slice sa os.length sc] 127 (0,0))):=hide (heap_alloc_new u1 _)
 have HAT:Hid (Dh.At (u1.alloc (.cells #[.bool rep,.int .u32 xid,.int .u32 cl,.int .u32 yo,.int .u32 ne,.int .u8 d0,.int .u8 d1,.int .u8 d2,.int .u8 d3,.int .u8 d4,.int .u8 d5,.slice sa os.length sc] 127)) sa os):=hide ((Dh.At.own hown).below ((Below.refl u1.heap.size u1).alloc (Nat.le_refl _) _) (Nat.le_refl _))
 obtain ⟨v,hv⟩:∃ v,v=u1.alloc (.cells #[.bool rep,.int .u32 xid,.int .u32 cl,.int .u32 yo,.int .u32 ne,.int .u8 d0,.int .u8 d1,.int .u8 d2,.int .u8 d3,.int .u8 d4,.int .u8 d5,.slice sa os.length sc] 127):=⟨_,rfl⟩
 rw [← hv] at HM1 HR1 HAT
 have HV:=hide hv
 clear hb1 HR HM hv hown
 by_cases hf:(rep&&xid==m.xid&&b1)=true
 ·obtain ⟨⟨rfl,hx⟩,rfl⟩:(rep=true∧xid=m.xid)∧b1=true:=by simpa using hf
  have hx2:(xid != m.xid)=false:=by simpa using hx
  have HFM:Hid (forMe m true xid d0 d1 d2 d3 d4 d5=true):=hide (by rw [unhide HTM]; simpa using hx)
  clear hf hx
  go_wp2
  rw [← unhide HV]
  have c26:=(unhide HM1).c26
  have c1:=(unhide HM1).c1
  have c2:=(unhide HM1).c2
  have c3:=(unhide HM1).c3
  have c4:=(unhide HM1).c4
  have c5:=(unhide HM1).c5
  have c6:=(unhide HM1).c6
  obtain ⟨x0,x1,x2,x3,x4,x5,x6,x7,x8,x9,x10,x11⟩:=row12 (unhide HR1)
  go_quiet (fail)
  clear c1 c2 c3 c4 c5 c6 c26 hq x0 x1 x2 x3 x4 x5 x6 x7 x8 x9 x10 x11
  obtain ⟨v2,hv2⟩:∃ v2,v2=v.drewN nq:=⟨_,rfl⟩
  have HM2:Hid (Mx w0 P v2 B m):=hide (by rw [hv2]; exact (unhide HM1).like ⟨rfl,rfl,rfl,rfl⟩)
  have HR2:Hid (v2.heap[u1.heap.size]?=some (.cells #[.bool true,.int .u32 xid,.int .u32 cl,.int .u32 yo,.int .u32 ne,.int .u8 d0,.int .u8 d1,.int .u8 d2,.int .u8 d3,.int .u8 d4,.int .u8 d5,.slice sa os.length sc] 127 (0,0))):=hide (by rw [hv2]; exact unhide HR1)
  have HAT2:Hid (Dh.At v2 sa os):=hide (by rw [hv2]; exact (unhide HAT).below ⟨rfl,rfl,rfl,Nat.le_refl _,fun _ _=>rfl⟩ (Nat.le_refl _))
  rw [← hv2]
  clear hv2 HM1 HR1 HAT HV
  obtain ⟨x0,x1,x2,x3,x4,x5,x6,x7,x8,x9,x10,x11⟩:=row12 (unhide HR2)
  obtain ⟨kx,one,hB,hB2⟩:=byte_any os 53 (unhide HH)
  obtain ⟨sx,four,hA,hA2⟩:=addr_any os 54 (unhide HH)
  have HB:∀ u,Hid (Dh.At u sa os)→Hid (Calls Tryz.prog 214 #[.slice sa os.length sc,.int .u8 53] u fun ee w'=>ee=.returned (.tuple #[.int .u8 kx.toNat,.bool one])∧Below u.heap.size u w'):=fun u hu=>hide (hB sa sc u (unhide hu))
  have HA:∀ u,Hid (Dh.At u sa os)→Hid (Calls Tryz.prog 215 #[.slice sa os.length sc,.int .u8 54] u fun ee w'=>ee=.returned (.tuple #[.int .u32 sx,.bool four])∧Below u.heap.size u w'):=fun u hu=>hide (hA sa sc u (unhide hu))
  have HB2:=hide hB2
  have HA2:=hide hA2
  clear hB hA hB2 hA2
  go_wp2_with fail
  refine (unhide (HB _ HAT2)).mono ?_
  rintro ee v3 ⟨rfl,hb3⟩
  have HM3:=hide ((unhide HM2).below hb3)
  have HR3:=hide ((hb3.block _ (lt_of_block' (unhide HR2))).trans (unhide HR2))
  have HAT3:=hide ((unhide HAT2).below hb3 (Nat.le_refl _))
  clear hb3 HM2 HR2 HAT2 HB x0 x1 x2 x3 x4 x5 x6 x7 x8 x9 x10 x11
  go_wp2_with fail
  refine (unhide (HA _ HAT3)).mono ?_
  rintro ee v4 ⟨rfl,hb4⟩
  have HM4:=hide ((unhide HM3).below hb4)
  have HR4:=hide ((hb4.block _ (lt_of_block' (unhide HR3))).trans (unhide HR3))
  have HAT4:=hide ((unhide HAT3).below hb4 (Nat.le_refl _))
  clear hb4 HM3 HR3 HAT3 HA
  cases one with
  | false =>
   have e:=unhide H0 (Or.inr (Or.inl (by rcases unhide HB2 with ⟨q,_⟩ | ⟨_,q⟩; cases q; exact q)))
   subst e
   go_wp2
   go_returns
   exact ⟨rfl,unhide HM4⟩
  | true =>
   cases four with
   | false =>
    have e:=unhide H0 (Or.inr (Or.inr (by rcases unhide HA2 with ⟨q,_⟩ | ⟨_,q⟩; cases q; exact q)))
    subst e
    go_wp2
    go_returns
    exact ⟨rfl,unhide HM4⟩
   | true =>
    obtain ⟨hdk⟩:Nonempty (Dh.data os 53=[kx]):=by rcases unhide HB2 with ⟨_,q⟩ | ⟨q,_⟩; exact ⟨q⟩; cases q
    obtain ⟨s0,s1,s2,s3,hds,hsx⟩:∃ s0 s1 s2 s3,Dh.data os 54=[s0,s1,s2,s3]∧sx=(16777216*(s0.toNat:Int)+65536*(s1.toNat:Int)+256*(s2.toNat:Int)+(s3.toNat:Int)):=by rcases unhide HA2 with ⟨_,q⟩ | ⟨q,_⟩; exact q; cases q
    obtain ⟨j0,j1⟩:=unhide H1 kx s0 s1 s2 s3 (unhide HFM) hdk hds
    obtain ⟨j2,j3,j4⟩:=j1 sa sc
    rw [← hsx] at j2 j3 j4
    have HHO:∀ u,Hid (Mx w0 P u B m)→∀ g cap,Hid (u.heap[g]?=some (.cells #[.int .u16 2,(.func (.func 255) #[] #[]),.int .u16 5,(.func (.func 256) #[] #[]),.int .u16 6,(.func (.func 257) #[] #[])] 299 (0,0)))→Hid (¬ Foot B m g)→u1.heap.size<u.heap.size→Hid (Dh.At u sa os)→Hid (Calls Tryz.prog 216 #[.pointer (some ⟨B,0,none⟩),.slice (some ⟨g,0,none⟩) 3 cap,.int .u16 kx.toNat,.agg #[.bool true,.int .u32 xid,.int .u32 cl,.int .u32 yo,.int .u32 ne,.int .u8 d0,.int .u8 d1,.int .u8 d2,.int .u8 d3,.int .u8 d4,.int .u8 d5,.slice sa os.length sc,.int .u32 sx]] u fun ee w'=>ee=.returned (.tuple #[])∧Hid (Mx w0 P w' B m')∧Hid (w'.heap[u1.heap.size]?=u.heap[u1.heap.size]?)):=fun u hu g cap hg hf hx hat=>hide (by
     refine (reply_any (unhide hu).base g cap (unhide hg) (unhide hf) kx.toNat true xid cl yo ne d0 d1 d2 d3 d4 d5 sa os sc sx (unhide hat) j2 j3 j4 j0).mono ?_
     rintro ee w' ⟨rfl,hk⟩
     exact ⟨rfl,hide ((unhide hu).join hk),hide (hk.kept _ hx HNF)⟩)
    clear j0 j1 j2 j3 j4 hds hsx hdk HA2 HB2 H0 H1 HFM HTM hx2
    have hw16:IntKind.u16.wrap (kx.toNat:Int)=(kx.toNat:Int):=by
     have:=kx.toNat_lt
     first | (rw [IntKind.wrap_u16]; omega) | (rw [IntKind.wrap_u16']; omega)
    have HLT:Hid (u1.heap.size<v4.heap.size):=hide (lt_of_block' (unhide HR4))
    obtain ⟨x0,x1,x2,x3,x4,x5,x6,x7,x8,x9,x10,x11⟩:=row12 (unhide HR4)
    have HAT5:Hid (Dh.At v4.drew sa os):=hide ((unhide HAT4).below ⟨rfl,rfl,rfl,Nat.le_refl _,fun _ _=>rfl⟩ (Nat.le_refl _))
    go_wp2
    go_region_held3 (fun u=>u.cell? ⟨u1.heap.size,0,none⟩=some (.bool true)∧u.cell? ⟨u1.heap.size,1,none⟩=some (.int .u32 xid)∧u.cell? ⟨u1.heap.size,2,none⟩=some (.int .u32 cl)∧u.cell? ⟨u1.heap.size,3,none⟩=some (.int .u32 yo)∧u.cell? ⟨u1.heap.size,4,none⟩=some (.int .u32 ne)∧u.cell? ⟨u1.heap.size,5,none⟩=some (.int .u8 d0)∧u.cell? ⟨u1.heap.size,6,none⟩=some (.int .u8 d1)∧u.cell? ⟨u1.heap.size,7,none⟩=some (.int .u8 d2)∧u.cell? ⟨u1.heap.size,8,none⟩=some (.int .u8 d3)∧u.cell? ⟨u1.heap.size,9,none⟩=some (.int .u8 d4)∧u.cell? ⟨u1.heap.size,10,none⟩=some (.int .u8 d5)∧u.cell? ⟨u1.heap.size,11,none⟩=some (.slice sa os.length sc)) (go_keep)
     (first | (go_at_call 217; refine (replyHands_mx (unhide HM4).drew u1.heap.size _ (by exact unhide HR4) sa os (unhide HAT5)).mono ?_; rintro ee u2 ⟨g,rfl,HM5,HR5,HG5,HNV,HAT6⟩; obtain ⟨y0,y1,y2,y3,y4,y5,y6,y7,y8,y9,y10,y11⟩:=row12 (unhide HR5)) | (go_at_call 216; refine (unhide (HHO _ HM5 _ _ HG5 HNV (lt_of_block' (unhide HR5)) HAT6)).mono ?_; rintro ee u3 ⟨rfl,H3,HKB⟩; obtain ⟨z0,z1,z2,z3,z4,z5,z6,z7,z8,z9,z10,z11⟩:=row12 ((unhide HKB).trans (unhide HR5))))
    go_wp2
    go_returns
    exact ⟨rfl,unhide H3⟩
 ·have e:=unhide H0 (Or.inl (by rw [unhide HTM]; simpa using hf))
  subst e
  cases rep with
  | false =>
   go_wp2
   rw [← unhide HV]
   have c26:=(unhide HM1).c26
   have c1:=(unhide HM1).c1
   have c2:=(unhide HM1).c2
   have c3:=(unhide HM1).c3
   have c4:=(unhide HM1).c4
   have c5:=(unhide HM1).c5
   have c6:=(unhide HM1).c6
   obtain ⟨x0,x1,x2,x3,x4,x5,x6,x7,x8,x9,x10,x11⟩:=row12 (unhide HR1)
   go_quiet (fail)
   go_wp2
   go_returns
   exact ⟨rfl,(unhide HM1).like ⟨rfl,rfl,rfl,rfl⟩⟩
  | true =>
   by_cases hx:xid=m'.xid
   ·have hx2:(xid != m'.xid)=false:=by simpa using hx
    have hb1:b1=false:=by
     cases b1 with
     | false=>rfl
     | true=>exact absurd (by simpa using hx) hf
    subst hb1
    clear hx hf
    go_wp2
    rw [← unhide HV]
    have c26:=(unhide HM1).c26
    have c1:=(unhide HM1).c1
    have c2:=(unhide HM1).c2
    have c3:=(unhide HM1).c3
    have c4:=(unhide HM1).c4
    have c5:=(unhide HM1).c5
    have c6:=(unhide HM1).c6
    obtain ⟨x0,x1,x2,x3,x4,x5,x6,x7,x8,x9,x10,x11⟩:=row12 (unhide HR1)
    go_quiet (fail)
    go_wp2
    go_returns
    exact ⟨rfl,(unhide HM1).like ⟨rfl,rfl,rfl,rfl⟩⟩
   ·have hx2:(xid != m'.xid)=true:=by simpa using hx
    clear hf
    go_wp2
    rw [← unhide HV]
    have c26:=(unhide HM1).c26
    have c1:=(unhide HM1).c1
    have c2:=(unhide HM1).c2
    have c3:=(unhide HM1).c3
    have c4:=(unhide HM1).c4
    have c5:=(unhide HM1).c5
    have c6:=(unhide HM1).c6
    obtain ⟨x0,x1,x2,x3,x4,x5,x6,x7,x8,x9,x10,x11⟩:=row12 (unhide HR1)
    go_quiet (fail)
    go_wp2
    go_returns
    exact ⟨rfl,(unhide HM1).like ⟨rfl,rfl,rfl,rfl⟩⟩
end Go.Proofs.YtbhbbeebncmaiaaGreatDoor.Mac
namespace Go.Proofs.YtbhbbeebncmaiaaGreatDoor.Dh
open Go.ChangeShapes Go.WideShapes Go.ChangeAt Go.RowKit Bs
set_option linter.unusedVariables false
set_option linter.unusedSimpArgs false
set_option maxHeartbeats 2000000 in
theorem refOption_any (cd:UInt8) (a:Option Addr) (cap:Nat) (ls:List Pc) (w:World) (hA:At w a ls) (hl:ls.length≤268435456) :
  Calls Tryz.prog 107 #[.slice a ls.length cap,.int .u8 cd.toNat] w fun e w' =>
   e=.returned (.tuple #[.string ⟨((look ls cd).getD []).toArray⟩,.bool (look ls cd).isSome])∧Below w.heap.size w w':=by
 have HA:=hide hA
 clear hA
 go_enter Tryz.func107,Tryz.ntmps107
 go_wp2
 go_loopw [10] (fun i wr=>∃ k:Nat,k≤ls.length∧i=.int .i64 k∧Hid (look (ls.take k) cd=none)∧Hid (Below w.heap.size w wr)) (fun i _=>ls.length - (intOf i).toNat)
 case atStart=>exact ⟨0,Nat.zero_le _,rfl,hide rfl,hide (Below.refl _ _)⟩
 case round =>
  obtain ⟨k,hk,rfl,HF,HW⟩:=hrel
  rename World=>wr
  by_cases hlt:k<ls.length
  ·obtain ⟨ad,rfl,c0,c1⟩:=(unhide HA).below (unhide HW) (Nat.le_refl _) k hlt
   obtain ⟨oc,od,hcd⟩:∃ x y,ls[k]=(x,y):=⟨_,_,rfl⟩
   have HL1:=hide (look_take ls cd k hlt (unhide HF))
   have HL2:=hide (look_next ls cd k hlt (unhide HF))
   rw [hcd] at c0 c1 HL1 HL2
   simp only at c0 c1 HL1 HL2
   have hc8:=oc.toNat_lt
   clear hcd
   by_cases e:oc=cd
   ·have hlk:=unhide HL1 e
    have hc52:oc.toNat=cd.toNat:=by rw [e]
    rw [hc52] at c0
    have HLK:=hide hlk
    clear hlk hc52 e
    go_wp2
    go_ret2
    exact ⟨by rw [unhide HLK]; rfl,(unhide HW).alloc (unhide HW).size _⟩
   ·have hne:¬ oc.toNat=cd.toNat:=fun h=>e (UInt8.toNat_inj.1 h)
    have q:(((oc.toNat:Nat):Int)==(cd.toNat:Int))=false:=by simp; omega
    have HN:=hide (unhide HL2 e)
    clear e hne
    go_wp2
    go_roundw
    case rel=>exact ⟨k+1,by omega,by go_num,HN,hide ((unhide HW).alloc (unhide HW).size _)⟩
    case measure=>simp [intOf]; omega
  ·have e0:k=ls.length:=by omega
   subst e0
   have HN:Hid (look ls cd=none):=hide (by have q:=unhide HF; rwa [List.take_length] at q)
   go_wp2
   go_ret2
   exact ⟨by rw [unhide HN]; rfl,unhide HW⟩
end Go.Proofs.YtbhbbeebncmaiaaGreatDoor.Dh
namespace Go.Proofs.YtbhbbeebncmaiaaGreatDoor.Ref
open Go.ChangeShapes Go.WideShapes Go.ChangeAt Go.RowKit Bs Mac
set_option linter.unusedVariables false
set_option linter.unusedSimpArgs false
variable {w0 : World} {P : Nat → Prop} {w w' : World} {G : Nat} {r r' : Rf}
def Hs (w:World) (v:Value) (os:Dh.Opts):Prop:=∃ sa cp,v=.slice sa os.length cp∧Dh.At w sa os
theorem Hs.of {b:Nat} {v:Value} {os:Dh.Opts} (h:Dh.Has b w v os):Hs w v os:=by
 rcases h with ⟨rfl,rfl⟩ | ⟨ad,cp,e,_,hA⟩
 ·exact ⟨none,0,rfl,fun i hi=>by simp at hi⟩
 ·exact ⟨some ad,cp,e,hA⟩
theorem Hs.below {v:Value} {os:Dh.Opts} (h:Hs w v os) (hb:Below w.heap.size w w'):Hs w' v os:=by
 obtain ⟨sa,cp,e,hA⟩:=h
 exact ⟨sa,cp,e,hA.below hb (Nat.le_refl _)⟩
def optS (os:Dh.Opts) (cd:UInt8):List UInt8:=(Dh.look os cd).getD []
theorem optionV (cd:UInt8) {v:Value} {os:Dh.Opts} (h:Hs w v os) (hl:os.length≤268435456) :
  Calls Tryz.prog 107 #[v,.int .u8 cd.toNat] w fun e w'=>e=.returned (.tuple #[.string ⟨(optS os cd).toArray⟩,.bool (Dh.look os cd).isSome])∧Below w.heap.size w w':=by
 obtain ⟨sa,cp,rfl,hA⟩:=h
 exact Dh.refOption_any cd sa cp os w hA hl
theorem str_size (l:List UInt8):(⟨l.toArray⟩:ByteArray).size=l.length:=by show l.toArray.size=_; simp
set_option maxHeartbeats 1000000 in
theorem number_no (cd:UInt8) (rep:Bool) (xid cl yo ne d0 d1 d2 d3 d4 d5:Int) (v:Value) (os:Dh.Opts) (h:Hs w v os) (hl:os.length≤268435456) (hn:(optS os cd).length≠4) :
  Calls Tryz.prog 108 #[.agg #[.bool rep,.int .u32 xid,.int .u32 cl,.int .u32 yo,.int .u32 ne,.int .u8 d0,.int .u8 d1,.int .u8 d2,.int .u8 d3,.int .u8 d4,.int .u8 d5,v],.int .u8 cd.toNat] w fun e w'=>e=.returned (.tuple #[.int .i64 0,.bool false])∧Below w.heap.size w w':=by
 have hb0:=(Below.refl w.heap.size w).alloc (Nat.le_refl _) (.cells #[.bool rep,.int .u32 xid,.int .u32 cl,.int .u32 yo,.int .u32 ne,.int .u8 d0,.int .u8 d1,.int .u8 d2,.int .u8 d3,.int .u8 d4,.int .u8 d5,v] 127)
 have HO:=hide (optionV cd (h.below hb0) hl)
 have HB:=hide hb0
 obtain ⟨sa,cp,rfl,hA⟩:=h
 have hsz:=str_size (optS os cd)
 obtain ⟨st,hst⟩:∃ st:ByteArray,st=⟨(optS os cd).toArray⟩:=⟨_,rfl⟩
 rw [← hst] at HO hsz
 have h4:((st.size:Int) != 4)=true:=by rw [hsz]; simp; omega
 generalize (Dh.look os cd).isSome=b at HO
 clear hb0 hA hn hst hsz hl
 go_enter Tryz.func108,Tryz.ntmps108
 go_wp2_with fail
 refine (unhide HO).mono ?_
 rintro ee u ⟨rfl,hb⟩
 have HB2:=hide hb
 clear hb HO
 cases b with
 | true =>
  go_wp2
  go_ret2
  exact ⟨rfl,(unhide HB).trans ((unhide HB2).mono (by simp))⟩
 | false =>
  go_wp2
  go_ret2
  exact ⟨rfl,(unhide HB).trans ((unhide HB2).mono (by simp))⟩
theorem look_some {os:Dh.Opts} {cd:UInt8} (h:(optS os cd).length=4):(Dh.look os cd).isSome=true:=by
 unfold optS at h
 cases q:Dh.look os cd with
 | none=>rw [q] at h; simp at h
 | some x=>rfl
set_option maxHeartbeats 1000000 in
theorem number_ok (cd:UInt8) (rep:Bool) (xid cl yo ne d0 d1 d2 d3 d4 d5:Int) (v:Value) (os:Dh.Opts) (h:Hs w v os) (hl:os.length≤268435456) (hn:(optS os cd).length=4) :
  Calls Tryz.prog 108 #[.agg #[.bool rep,.int .u32 xid,.int .u32 cl,.int .u32 yo,.int .u32 ne,.int .u8 d0,.int .u8 d1,.int .u8 d2,.int .u8 d3,.int .u8 d4,.int .u8 d5,v],.int .u8 cd.toNat] w fun e w'=>e=.returned (.tuple #[.int .i64 (Rr.ofL (optS os cd)),.bool true])∧Below w.heap.size w w':=by
 have hb0:=(Below.refl w.heap.size w).alloc (Nat.le_refl _) (.cells #[.bool rep,.int .u32 xid,.int .u32 cl,.int .u32 yo,.int .u32 ne,.int .u8 d0,.int .u8 d1,.int .u8 d2,.int .u8 d3,.int .u8 d4,.int .u8 d5,v] 127)
 have HO:=hide (optionV cd (h.below hb0) hl)
 rw [look_some hn] at HO
 have HB:=hide hb0
 obtain ⟨sa,cp,rfl,hA⟩:=h
 have hsz:=str_size (optS os cd)
 obtain ⟨st,hst⟩:∃ st:ByteArray,st=⟨(optS os cd).toArray⟩:=⟨_,rfl⟩
 have hz2:st.size=4:=by rw [hst,str_size]; exact hn
 have hL:Rr.ofL st.data.toList=Rr.ofL (optS os cd):=by rw [hst]
 have HF:=fun u=>hide (Rr.of_any st u (by omega))
 rw [hL] at HF
 rw [← hst] at HO
 have h4:((st.size:Int) != 4)=false:=by rw [hz2]; rfl
 clear hb0 hA hn hst hsz hl hz2 hL
 generalize Rr.ofL (optS os cd)=x at *
 go_enter Tryz.func108,Tryz.ntmps108
 go_wp2_with fail
 refine (unhide HO).mono ?_
 rintro ee u ⟨rfl,hb⟩
 have HB2:=hide hb
 clear hb HO
 go_wp2_with fail
 refine (unhide (HF _)).mono ?_
 rintro ee u2 ⟨rfl,rfl⟩
 go_wp2
 go_ret2
 exact ⟨rfl,(unhide HB).trans ((unhide HB2).mono (by simp))⟩
theorem address_off (h:Rm w0 P w G r) (hl:r.lease<4):Calls Tryz.prog 46 #[.pointer (some ⟨G,0,none⟩)] w fun ee w'=>ee=.returned (.int .u32 0)∧w'=w:=by
 have c22:=h.c22
 have hge:¬ (4:Int)≤r.lease:=by omega
 clear h
 go_enter Tryz.func46,Tryz.ntmps46
 go_wp2
 go_ret
 exact ⟨rfl,rfl⟩
theorem find_nil (h:Rm w0 P w G r) (hc:r.cv=.slice none 0 0) (x:Int):Calls Tryz.prog 96 #[.pointer (some ⟨G,0,none⟩),.int .u32 x] w fun ee w'=>ee=.returned (.int .i64 (-1))∧w'=w:=by
 have c21:=h.c21
 rw [hc] at c21
 clear h
 go_enter Tryz.func96,Tryz.ntmps96
 go_wp2
 refine wp_loop_rounds 1 ?_
 rw [rounds_succ]
 go_wp2
 go_ret
 exact ⟨rfl,rfl⟩
end Go.Proofs.YtbhbbeebncmaiaaGreatDoor.Ref
namespace Go.Proofs.YtbhbbeebncmaiaaGreatDoor.Ref
open Go.ChangeShapes Go.WideShapes Go.ChangeAt Go.RowKit Bs Mac
set_option linter.unusedVariables false
set_option linter.unusedSimpArgs false
variable {w0 : World} {P : Nat → Prop} {w w' : World} {G : Nat} {r r' : Rf}
set_option maxHeartbeats 4000000 in
theorem arp_off (h:Rm w0 P w G r) (hl:r.lease<3) (hc:r.cv=.slice none 0 0) (op f0 f1 f2 f3 f4 f5 fip t0 t1 t2 t3 t4 t5 tip:Int) :
  Calls Tryz.prog 67 #[.pointer (some ⟨G,0,none⟩),.agg #[.int .u16 op,.int .u8 f0,.int .u8 f1,.int .u8 f2,.int .u8 f3,.int .u8 f4,.int .u8 f5,.int .u32 fip,.int .u8 t0,.int .u8 t1,.int .u8 t2,.int .u8 t3,.int .u8 t4,.int .u8 t5,.int .u32 tip]] w fun ee w'=>ee=.returned (.tuple #[])∧Rm w0 P w' G r:=by
 have HM1:=hide (h.alloc (.cells #[.int .u16 op,.int .u8 f0,.int .u8 f1,.int .u8 f2,.int .u8 f3,.int .u8 f4,.int .u8 f5,.int .u32 fip,.int .u8 t0,.int .u8 t1,.int .u8 t2,.int .u8 t3,.int .u8 t4,.int .u8 t5,.int .u32 tip] 115))
 have HR1:Hid ((w.alloc (.cells #[.int .u16 op,.int .u8 f0,.int .u8 f1,.int .u8 f2,.int .u8 f3,.int .u8 f4,.int .u8 f5,.int .u32 fip,.int .u8 t0,.int .u8 t1,.int .u8 t2,.int .u8 t3,.int .u8 t4,.int .u8 t5,.int .u32 tip] 115)).heap[w.heap.size]?=some (.cells #[.int .u16 op,.int .u8 f0,.int .u8 f1,.int .u8 f2,.int .u8 f3,.int .u8 f4,.int .u8 f5,.int .u32 fip,.int .u8 t0,.int .u8 t1,.int .u8 t2,.int .u8 t3,.int .u8 t4,.int .u8 t5,.int .u32 tip] 115 (0,0))):=hide (heap_alloc_new w _)
 have hl3:(r.lease==3)=false:=by rw [beq_eq_false_iff_ne]; omega
 have HL:Hid (r.lease<4):=hide (by omega)
 have HC:=hide hc
 clear h hl hc
 go_enter Tryz.func67,Tryz.ntmps67
 obtain ⟨v,hv⟩:∃ v,v=w.alloc (.cells #[.int .u16 op,.int .u8 f0,.int .u8 f1,.int .u8 f2,.int .u8 f3,.int .u8 f4,.int .u8 f5,.int .u32 fip,.int .u8 t0,.int .u8 t1,.int .u8 t2,.int .u8 t3,.int .u8 t4,.int .u8 t5,.int .u32 tip] 115):=⟨_,rfl⟩
 rw [← hv] at HM1 HR1
 have HV:=hide hv
 clear hv
 go_wp2
 rw [← unhide HV]
 have c22:=(unhide HM1).c22
 go_quiet (fail)
 obtain ⟨v2,hv2⟩:∃ v2,v2=v.drewN nq:=⟨_,rfl⟩
 have HM2:Hid (Rm w0 P v2 G r):=hide (by rw [hv2]; exact (unhide HM1).like ⟨rfl,rfl,rfl,rfl⟩)
 have HR2:Hid (v2.heap[w.heap.size]?=v.heap[w.heap.size]?):=hide (by rw [hv2]; rfl)
 rw [← hv2]
 clear hv2 c22
 have HA2:Hid (∀ n,Calls Tryz.prog 46 #[.pointer (some ⟨G,0,none⟩)] (v2.drewN n) fun ee w'=>ee=.returned (.int .u32 0)∧w'=v2.drewN n):=hide (fun n=>address_off ((unhide HM2).like ⟨rfl,rfl,rfl,rfl⟩) (unhide HL))
 go_wp2
 go_quiet (first | (go_at_call 46; exact Calls.quiet_of_same (unhide HA2 _)))
 obtain ⟨v3,hv3⟩:∃ v3,v3=v2.drewN nq:=⟨_,rfl⟩
 have HM3:Hid (Rm w0 P v3 G r):=hide (by rw [hv3]; exact (unhide HM2).like ⟨rfl,rfl,rfl,rfl⟩)
 have HR3:Hid (v3.heap[w.heap.size]?=v.heap[w.heap.size]?):=hide (by rw [hv3]; exact unhide HR2)
 rw [← hv3]
 clear hv3 HA2
 have HA3:Hid (∀ n,Calls Tryz.prog 46 #[.pointer (some ⟨G,0,none⟩)] (v3.drewN n) fun ee w'=>ee=.returned (.int .u32 0)∧w'=v3.drewN n):=hide (fun n=>address_off ((unhide HM3).like ⟨rfl,rfl,rfl,rfl⟩) (unhide HL))
 obtain ⟨x0,x1,x2,x3,x4,x5,x6,x7,x8,x9,x10,x11,x12,x13,x14⟩:=row15 ((unhide HR3).trans (unhide HR1))
 by_cases hf:fip=0
 ·subst hf
  go_wp2
  go_quiet (first | (go_at_call 46; exact Calls.quiet_of_same (unhide HA3 _)))
  go_wp2
  go_returns
  exact ⟨rfl,(unhide HM3).like ⟨rfl,rfl,rfl,rfl⟩⟩
 ·have hf':(fip != 0)=true:=by simpa using hf
  go_wp2
  go_quiet (first | (go_at_call 46; exact Calls.quiet_of_same (unhide HA3 _)))
  obtain ⟨v4,hv4⟩:∃ v4,v4=v3.drewN nq:=⟨_,rfl⟩
  have HM4:Hid (Rm w0 P v4 G r):=hide (by rw [hv4]; exact (unhide HM3).like ⟨rfl,rfl,rfl,rfl⟩)
  have HR4:Hid (v4.heap[w.heap.size]?=v.heap[w.heap.size]?):=hide (by rw [hv4]; exact unhide HR3)
  rw [← hv4]
  clear hv4 HA3 x0 x1 x2 x3 x4 x5 x6 x7 x8 x9 x10 x11 x12 x13 x14
  obtain ⟨x0,x1,x2,x3,x4,x5,x6,x7,x8,x9,x10,x11,x12,x13,x14⟩:=row15 ((unhide HR4).trans (unhide HR1))
  have HF:=hide (find_nil (unhide HM4) (unhide HC) fip)
  go_wp2_with fail
  refine (unhide HF).mono ?_
  rintro ee u5 ⟨rfl,rfl⟩
  have c16:=(unhide HM4).c16
  have hlt:=(unhide HM4).lt
  have hne:w.heap.size<u5.heap.size:=World.block_lt_of_cell? u5 _ x0
  go_wp2
  go_region
  go_wp2
  go_returns
  refine ⟨rfl,?_⟩
  exact ((unhide HM4).alloc _).like ⟨rfl,rfl,rfl,rfl⟩

set_option maxHeartbeats 2000000 in
set_option maxRecDepth 10000 in
theorem granted_off (h:Rm w0 P w G r) (hl:r.lease<2) (rep:Bool) (xid cl yo ne d0 d1 d2 d3 d4 d5:Int) (v:Value) (os:Dh.Opts) (hH:Hs w v os) (hh:os.length≤268435456) (fr:Int) :
  Calls Tryz.prog 109 #[.pointer (some ⟨G,0,none⟩),.agg #[.bool rep,.int .u32 xid,.int .u32 cl,.int .u32 yo,.int .u32 ne,.int .u8 d0,.int .u8 d1,.int .u8 d2,.int .u8 d3,.int .u8 d4,.int .u8 d5,v],.int .u32 fr] w fun ee w'=>ee=.returned (.tuple #[])∧Rm w0 P w' G r:=by
 have hb0:=(Below.refl w.heap.size w).alloc (Nat.le_refl _) (.cells #[.bool rep,.int .u32 xid,.int .u32 cl,.int .u32 yo,.int .u32 ne,.int .u8 d0,.int .u8 d1,.int .u8 d2,.int .u8 d3,.int .u8 d4,.int .u8 d5,v] 127)
 obtain ⟨n,b,hN⟩:∃ (n:Int) (b:Bool),Calls Tryz.prog 108 #[.agg #[.bool rep,.int .u32 xid,.int .u32 cl,.int .u32 yo,.int .u32 ne,.int .u8 d0,.int .u8 d1,.int .u8 d2,.int .u8 d3,.int .u8 d4,.int .u8 d5,v],.int .u8 51] (w.alloc (.cells #[.bool rep,.int .u32 xid,.int .u32 cl,.int .u32 yo,.int .u32 ne,.int .u8 d0,.int .u8 d1,.int .u8 d2,.int .u8 d3,.int .u8 d4,.int .u8 d5,v] 127)) fun e w'=>e=.returned (.tuple #[.int .i64 n,.bool b])∧Below (w.alloc (.cells #[.bool rep,.int .u32 xid,.int .u32 cl,.int .u32 yo,.int .u32 ne,.int .u8 d0,.int .u8 d1,.int .u8 d2,.int .u8 d3,.int .u8 d4,.int .u8 d5,v] 127)).heap.size (w.alloc (.cells #[.bool rep,.int .u32 xid,.int .u32 cl,.int .u32 yo,.int .u32 ne,.int .u8 d0,.int .u8 d1,.int .u8 d2,.int .u8 d3,.int .u8 d4,.int .u8 d5,v] 127)) w':=by
  by_cases h4:(optS os 51).length=4
  ·exact ⟨_,_,number_ok 51 rep xid cl yo ne d0 d1 d2 d3 d4 d5 v os (hH.below hb0) hh h4⟩
  ·exact ⟨_,_,number_no 51 rep xid cl yo ne d0 d1 d2 d3 d4 d5 v os (hH.below hb0) hh h4⟩
 have HN:=hide hN
 have HM1:=hide (h.alloc (.cells #[.bool rep,.int .u32 xid,.int .u32 cl,.int .u32 yo,.int .u32 ne,.int .u8 d0,.int .u8 d1,.int .u8 d2,.int .u8 d3,.int .u8 d4,.int .u8 d5,v] 127))
 have HR1:Hid ((w.alloc (.cells #[.bool rep,.int .u32 xid,.int .u32 cl,.int .u32 yo,.int .u32 ne,.int .u8 d0,.int .u8 d1,.int .u8 d2,.int .u8 d3,.int .u8 d4,.int .u8 d5,v] 127)).heap[w.heap.size]?=some (.cells #[.bool rep,.int .u32 xid,.int .u32 cl,.int .u32 yo,.int .u32 ne,.int .u8 d0,.int .u8 d1,.int .u8 d2,.int .u8 d3,.int .u8 d4,.int .u8 d5,v] 127 (0,0))):=hide (heap_alloc_new w _)
 have e2:(r.lease==2)=false:=by rw [beq_eq_false_iff_ne]; omega
 have e5:(r.lease==5)=false:=by rw [beq_eq_false_iff_ne]; omega
 have e6:(r.lease==6)=false:=by rw [beq_eq_false_iff_ne]; omega
 obtain ⟨sa,cp,rfl,hA⟩:=hH
 clear h hl hN hb0 hA
 go_enter Tryz.func109,Tryz.ntmps109
 go_wp2_with fail
 refine (unhide HN).mono ?_
 rintro ee u ⟨rfl,hb⟩
 have HM2:=hide ((unhide HM1).below hb)
 clear HN hb HM1 HR1
 have c22:=(unhide HM2).c22
 go_wp2
 go_quiet (fail)
 go_wp2
 go_returns
 exact ⟨rfl,(unhide HM2).like ⟨rfl,rfl,rfl,rfl⟩⟩
set_option maxHeartbeats 4000000 in
set_option maxRecDepth 10000 in
theorem dhcp_off (h:Rm w0 P w G r) (hl:r.lease<1) (rep:Bool) (xid cl yo ne d0 d1 d2 d3 d4 d5:Int) (v:Value) (os:Dh.Opts) (hH:Hs w v os) (hh:os.length≤268435456) :
  Calls Tryz.prog 71 #[.pointer (some ⟨G,0,none⟩),.agg #[.bool rep,.int .u32 xid,.int .u32 cl,.int .u32 yo,.int .u32 ne,.int .u8 d0,.int .u8 d1,.int .u8 d2,.int .u8 d3,.int .u8 d4,.int .u8 d5,v]] w fun ee w'=>ee=.returned (.tuple #[])∧Rm w0 P w' G r:=by
 have hb0:=(Below.refl w.heap.size w).alloc (Nat.le_refl _) (.cells #[.bool rep,.int .u32 xid,.int .u32 cl,.int .u32 yo,.int .u32 ne,.int .u8 d0,.int .u8 d1,.int .u8 d2,.int .u8 d3,.int .u8 d4,.int .u8 d5,v] 127)
 have HO:=hide (optionV 53 (hH.below hb0) hh)
 have HH1:=hide (hH.below hb0)
 have HM1:=hide (h.alloc (.cells #[.bool rep,.int .u32 xid,.int .u32 cl,.int .u32 yo,.int .u32 ne,.int .u8 d0,.int .u8 d1,.int .u8 d2,.int .u8 d3,.int .u8 d4,.int .u8 d5,v] 127))
 have HR1:Hid ((w.alloc (.cells #[.bool rep,.int .u32 xid,.int .u32 cl,.int .u32 yo,.int .u32 ne,.int .u8 d0,.int .u8 d1,.int .u8 d2,.int .u8 d3,.int .u8 d4,.int .u8 d5,v] 127)).heap[w.heap.size]?=some (.cells #[.bool rep,.int .u32 xid,.int .u32 cl,.int .u32 yo,.int .u32 ne,.int .u8 d0,.int .u8 d1,.int .u8 d2,.int .u8 d3,.int .u8 d4,.int .u8 d5,v] 127 (0,0))):=hide (heap_alloc_new w _)
 have e1:(r.lease==1)=false:=by rw [beq_eq_false_iff_ne]; omega
 have e6:(r.lease==6)=false:=by rw [beq_eq_false_iff_ne]; omega
 have e2:¬ (2:Int)≤r.lease:=by omega
 have HL:Hid (r.lease<2):=hide (by omega)
 have hsz:=str_size (optS os 53)
 obtain ⟨st,hst⟩:∃ st:ByteArray,st=⟨(optS os 53).toArray⟩:=⟨_,rfl⟩
 rw [← hst] at HO hsz
 have HST:=hide hst
 have HHH:=hide hh
 obtain ⟨sa,cp,rfl,hA⟩:=hH
 generalize (Dh.look os 53).isSome=b53 at HO
 clear h hl hA hb0 hst hh
 go_enter Tryz.func71,Tryz.ntmps71
 go_wp2_with fail
 refine (unhide HO).mono ?_
 rintro ee u ⟨rfl,hb⟩
 have HM2:=hide ((unhide HM1).below hb)
 have HH2:=hide ((unhide HH1).below hb)
 have HR2:=hide ((hb.block w.heap.size (lt_of_block' (unhide HR1))).trans (unhide HR1))
 clear HO hb HM1 HH1 HR1
 obtain ⟨n,b,hN,hnr⟩:∃ (n:Int) (b:Bool),Calls Tryz.prog 108 #[.agg #[.bool rep,.int .u32 xid,.int .u32 cl,.int .u32 yo,.int .u32 ne,.int .u8 d0,.int .u8 d1,.int .u8 d2,.int .u8 d3,.int .u8 d4,.int .u8 d5,.slice sa os.length cp],.int .u8 54] u (fun e w'=>e=.returned (.tuple #[.int .i64 n,.bool b])∧Below u.heap.size u w')∧0≤n∧n<4294967296:=by
  by_cases h4:(optS os 54).length=4
  ·refine ⟨_,_,number_ok 54 rep xid cl yo ne d0 d1 d2 d3 d4 d5 _ os (unhide HH2) (unhide HHH) h4,Rr.ofL_nonneg _,?_⟩
   have:=Rr.ofL_lt (optS os 54)
   rw [h4] at this
   exact this
  ·exact ⟨_,_,number_no 54 rep xid cl yo ne d0 d1 d2 d3 d4 d5 _ os (unhide HH2) (unhide HHH) h4,by decide,by decide⟩
 have HN:=hide hN
 clear hN
 obtain ⟨x0,x1,x2,x3,x4,x5,x6,x7,x8,x9,x10,x11⟩:=row12 (unhide HR2)
 go_wp2_with fail
 refine (unhide HN).mono ?_
 rintro ee u2 ⟨rfl,hb⟩
 have HM3:=hide ((unhide HM2).below hb)
 have HH3:=hide ((unhide HH2).below hb)
 have HR3:=hide ((hb.block w.heap.size (lt_of_block' (unhide HR2))).trans (unhide HR2))
 clear HN hb HM2 HH2 HR2 x0 x1 x2 x3 x4 x5 x6 x7 x8 x9 x10 x11
 by_cases h1:st.size=1
 ·have h1':((st.size:Int) != 1)=false:=by rw [h1]; rfl
  cases b with
  | false =>
   go_wp2
   go_returns
   exact ⟨rfl,unhide HM3⟩
  | true =>
   obtain ⟨kb,hkb⟩:∃ kb,optS os 53=[kb]:=by
    match optS os 53,hsz.symm.trans h1 with
    | [a],_=>exact ⟨a,rfl⟩
   have i0:∀ u,(Instr.index 9 (.string st) (.int .i64 0)).run Tryz.prog u=.ok (.int .u8 kb.toNat) u:=fun u=>Dh.idx_str st 0 kb (by omega) (by rw [unhide HST,hkb]; rfl) 0 rfl u
   have hw:IntKind.u32.wrap n=n:=by rw [IntKind.wrap_u32]; omega
   have c22:=(unhide HM3).c22
   have c27:=(unhide HM3).c27
   obtain ⟨x0,x1,x2,x3,x4,x5,x6,x7,x8,x9,x10,x11⟩:=row12 (unhide HR3)
   clear hkb hsz
   have hkl:=kb.toNat_lt
   by_cases hk2:kb.toNat=2
   ·rw [hk2] at i0
    cases hs:(n==r.srv) with
    | true =>
     go_wp2
     go_returns
     exact ⟨rfl,unhide HM3⟩
    | false =>
     go_wp2
     go_returns
     exact ⟨rfl,unhide HM3⟩
   ·have q2:((kb.toNat:Int)==2)=false:=by rw [beq_eq_false_iff_ne]; omega
    by_cases hk5:kb.toNat=5
    ·rw [hk5] at i0 q2
     cases hs:(n==r.srv) with
     | true =>
      have HG:=hide (granted_off (unhide HM3) (unhide HL) rep xid cl yo ne d0 d1 d2 d3 d4 d5 _ os (unhide HH3) (unhide HHH) n)
      go_wp2_with fail
      refine (unhide HG).mono ?_
      rintro ee u5 ⟨rfl,h5⟩
      have H5:=hide h5
      clear h5 HG
      go_wp2
      go_returns
      exact ⟨rfl,unhide H5⟩
     | false =>
      go_wp2
      go_returns
      exact ⟨rfl,unhide HM3⟩
    ·have q5:((kb.toNat:Int)==5)=false:=by rw [beq_eq_false_iff_ne]; omega
     by_cases hk6:kb.toNat=6
     ·rw [hk6] at i0 q2 q5
      cases hs:(n==r.srv) with
      | true =>
       go_wp2
       go_returns
       exact ⟨rfl,unhide HM3⟩
      | false =>
       go_wp2
       go_returns
       exact ⟨rfl,unhide HM3⟩
     ·have q6:((kb.toNat:Int)==6)=false:=by rw [beq_eq_false_iff_ne]; omega
      cases hs:(n==r.srv) with
      | true =>
       go_wp2
       go_returns
       exact ⟨rfl,unhide HM3⟩
      | false =>
       go_wp2
       go_returns
       exact ⟨rfl,unhide HM3⟩
 ·have h1':((st.size:Int) != 1)=true:=by simp; omega
  go_wp2
  go_returns
  exact ⟨rfl,unhide HM3⟩
end Go.Proofs.YtbhbbeebncmaiaaGreatDoor.Ref
