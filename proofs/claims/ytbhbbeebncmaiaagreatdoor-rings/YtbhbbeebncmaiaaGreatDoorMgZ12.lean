import Derived.Test.YtbhbbeebncmaiaaGreatDoorMgZ00
import Derived.Maps.OwnSet
import Derived.BigQuiet
import Derived.BigRegion
import Derived.Deep.RegionHeld3
import Derived.Test.YtbhbbeebncmaiaaGreatDoorMgZ16
import Derived.Test.YtbhbbeebncmaiaaGreatDoorMgZ06
namespace Go.Proofs.YtbhbbeebncmaiaaGreatDoor.Mac
open Go.ChangeShapes Go.WideShapes Go.ChangeAt Go.RowKit Bs
set_option linter.unusedVariables false
set_option linter.unusedSimpArgs false
structure Mc where
 bm:Nat
 cd:DataW Unit
 k0:UInt8
 k1:UInt8
 k2:UInt8
 k3:UInt8
 k4:UInt8
 k5:UInt8
 name:ByteArray
 cap:Int
 dig:ByteArray
 blk:Int
 win:Int
 rx:Nat
 tx:Nat
 now:Int
 draw:Int
 cg:Nat
 cf:Nat
 cq:List ByteArray
 gg:Nat
 gf:Nat
 gq:List ByteArray
 lost:Int
 id:Int
 boots:Int
 st:Int
 xid:Int
 adr:Int
 srv:Int
 ws:Int
 wu:Int
 gr:Int
 mask:Int
 rou:Int
 ims:Int
 ends:Bool
 old:Int
 vold:Int
 over:Int
 asked:Int
 phase:Int
 port:Int
 frm:Int
 fblk:Int
 fwin:Int
 since:Int
 nxt:Int
 sF:Int
 sT:Int
 sL:ByteArray
 fs:Int
 fu:Int
 img:Value
 imgL:List UInt8

def Mc.cells (m:Mc):Array Value:=#[.map (some m.bm),.int .u8 m.k0.toNat,.int .u8 m.k1.toNat,.int .u8 m.k2.toNat,.int .u8 m.k3.toNat,.int .u8 m.k4.toNat,.int .u8 m.k5.toNat,
 .string m.name,.int .i64 m.cap,.string m.dig,.int .i64 m.blk,.int .i64 m.win,.int .i64 m.rx,.int .i64 m.tx,.int .i64 m.now,.int .u32 m.draw,
 .slice (some ⟨m.cg,0,none⟩) m.rx m.rx,.int .i64 m.cf,.int .i64 m.cq.length,.slice (some ⟨m.gg,0,none⟩) m.tx m.tx,.int .i64 m.gf,.int .i64 m.gq.length,
 .int .i64 m.lost,.int .u16 m.id,.int .i64 m.boots,
 .int .i64 m.st,.int .u32 m.xid,.int .u32 m.adr,.int .u32 m.srv,.int .i64 m.ws,.int .i64 m.wu,.int .i64 m.gr,
 .int .u32 m.mask,.int .u32 m.rou,.int .u32 m.ims,.bool m.ends,.int .u32 m.old,.int .u32 m.vold,.int .u32 m.over,.int .i64 m.asked,
 .int .i64 m.phase,
 .int .u16 m.port,.int .u16 m.frm,.int .i64 m.fblk,.int .i64 m.fwin,.int .i64 m.since,.int .u16 m.nxt,.int .u16 m.sF,.int .u16 m.sT,.string m.sL,.int .i64 m.fs,.int .i64 m.fu,
 m.img]

def Slots (w:World) (g n f:Nat) (q:List ByteArray):Prop :=
 0<n∧n≤16∧f<n∧q.length≤n∧∃ arr:Array Value,w.heap[g]?=some (.cells arr 9 (0,0))∧arr.size=n∧∀ i (h:i<q.length),arr[(f+i) % n]?=some (.string q[i])

def nbR (v:Value):Option (DataW Unit × List MemPlace) :=
 match v with
 | .agg cs=>match cs.toList with
  | [.int .i64 a,.int .u8 k0,.int .u8 k1,.int .u8 k2,.int .u8 k3,.int .u8 k4,.int .u8 k5,.int .i64 u,.string s] =>
   some (.agg [.lit (.int .i64 a),.lit (.int .u8 k0),.lit (.int .u8 k1),.lit (.int .u8 k2),.lit (.int .u8 k3),.lit (.int .u8 k4),.lit (.int .u8 k5),.lit (.int .i64 u),.lit (.string s.data.toList)],[])
  | _=>none
 | _=>none

def Foot (B:Nat) (m:Mc) (k:Nat):Prop:=k=B∨k=m.bm∨k=m.cg∨k=m.gg∨m.img.ownBlock=some k

def Gl (w:World):Prop:=∀ j,j<6→w.cell? ⟨1,j,none⟩=some (.int .u8 255)

structure Mx (w0:World) (P:Nat→Prop) (w:World) (B:Nat) (m:Mc):Prop where
 os:w.os=w0.os
 tape:w.tape=w0.tape
 output:w.output=w0.output
 size:w0.heap.size≤w.heap.size
 kept:∀ k,k<w0.heap.size→¬ P k→w.heap[k]?=w0.heap[k]?
 own:∀ k,Foot B m k→P k∨w0.heap.size≤k
 low:9≤w0.heap.size∧∀ k,P k→9≤k
 gl:Gl w0
 row:w.heap[B]?=some (.cells m.cells 102 (0,0))
 map:w.ownsMap Tryz.prog 53 nbR m.bm 4 m.cd
 came:Slots w m.cg m.rx m.cf m.cq
 goes:Slots w m.gg m.tx m.gf m.gq
 apart:m.cg≠m.gg
 image:w.ownsRow 0 5 1 m.img m.imgL.length (cells8 m.imgL)

theorem Slots.other {w w':World} {g n f:Nat} {q:List ByteArray} (h:Slots w g n f q) (e:w'.heap[g]?=w.heap[g]?):Slots w' g n f q:=by
 obtain ⟨a,b,c,d,arr,h1,h2,h3⟩:=h
 exact ⟨a,b,c,d,arr,e.trans h1,h2,h3⟩
theorem Slots.lt {w:World} {g n f:Nat} {q:List ByteArray} (h:Slots w g n f q):g<w.heap.size:=by
 obtain ⟨a,b,c,d,arr,h1,h2,h3⟩:=h
 exact lt_of_block h1
theorem owns_other {w w':World} {b n:Nat} {D:DataW Unit} (h:w.ownsMap Tryz.prog 53 nbR b n D) (e:w'.heap[b]?=w.heap[b]?):w'.ownsMap Tryz.prog 53 nbR b n D:=by
 obtain ⟨es,c,h1,h2⟩:=h
 exact ⟨es,c,e.trans h1,h2⟩
theorem owns_lt {w:World} {b n:Nat} {D:DataW Unit} (h:w.ownsMap Tryz.prog 53 nbR b n D):b<w.heap.size:=by
 obtain ⟨es,c,h1,h2⟩:=h
 exact lt_of_block h1
theorem row_other {w w':World} {v:Value} {n:Nat} {xs:List Value} {b:Nat} {e:TypeId} {z:Nat} (h:w.ownsRow b e z v n xs) (hk:∀ k,v.ownBlock=some k→w'.heap[k]?=w.heap[k]?):w'.ownsRow b e z v n xs:=by
 obtain ⟨h1,h2⟩:=h
 refine ⟨h1,?_⟩
 rcases h2 with h2 | ⟨g,cap,cur,e1,e2,e3,e4⟩
 ·exact Or.inl h2
 ·exact Or.inr ⟨g,cap,cur,e1,e2,(hk g (by rw [e1]; rfl)).trans e3,e4⟩
variable {w0 : World} {P : Nat → Prop} {w w' : World} {B : Nat} {m m' : Mc}
theorem Mx.lt (h:Mx w0 P w B m):B<w.heap.size:=lt_of_block h.row
theorem Mx.foot_lt (h:Mx w0 P w B m) {k:Nat} (hk:Foot B m k):k<w.heap.size:=by
 rcases hk with rfl | rfl | rfl | rfl | hk
 ·exact lt_of_block h.row
 ·exact owns_lt h.map
 ·exact h.came.lt
 ·exact h.goes.lt
 ·exact (h.image.lt k hk).2
theorem Mx.foot_low (h:Mx w0 P w B m) {k:Nat} (hk:Foot B m k):9≤k:=by
 rcases h.own k hk with e | e
 ·exact h.low.2 k e
 ·exact Nat.le_trans h.low.1 e
theorem Mx.turn (h:Mx w0 P w B m) (ho:w'.os=w.os) (ht:w'.tape=w.tape) (hp:w'.output=w.output) (hs:w.heap.size≤w'.heap.size)
  (hb:∀ k,k<w.heap.size→(Foot B m k∨¬ P k∧k<w0.heap.size)→w'.heap[k]?=w.heap[k]?):Mx w0 P w' B m :=
 {os:=ho.trans h.os,tape:=ht.trans h.tape,output:=hp.trans h.output,size:=Nat.le_trans h.size hs
  kept:=fun k hk hP=>(hb k (Nat.lt_of_lt_of_le hk h.size) (Or.inr ⟨hP,hk⟩)).trans (h.kept k hk hP)
  own:=h.own,low:=h.low,gl:=h.gl
  row:=(hb B h.lt (Or.inl (Or.inl rfl))).trans h.row
  map:=owns_other h.map (hb _ (owns_lt h.map) (Or.inl (Or.inr (Or.inl rfl))))
  came:=h.came.other (hb _ h.came.lt (Or.inl (Or.inr (Or.inr (Or.inl rfl)))))
  goes:=h.goes.other (hb _ h.goes.lt (Or.inl (Or.inr (Or.inr (Or.inr (Or.inl rfl))))))
  apart:=h.apart
  image:=row_other h.image (fun k hk=>hb k (h.image.lt k hk).2 (Or.inl (Or.inr (Or.inr (Or.inr (Or.inr hk)))))) }
theorem Mx.below (h:Mx w0 P w B m) (hb:Below w.heap.size w w'):Mx w0 P w' B m :=
 h.turn hb.os hb.tape hb.output hb.size (fun k hk _=>hb.block k hk)
theorem Mx.drew (h:Mx w0 P w B m):Mx w0 P w.drew B m:=h.turn rfl rfl rfl (Nat.le_refl _) (fun _ _ _=>rfl)
theorem Mx.alloc (h:Mx w0 P w B m) (o:Obj):Mx w0 P (w.alloc o) B m:=h.below ((Below.refl _ _).alloc (Nat.le_refl _) o)
theorem Mx.cell (h:Mx w0 P w B m) (j:Nat):w.cell? ⟨B,j,none⟩=m.cells[j]?:=cell_of_row w _ j _ _ _ h.row
theorem Mx.free (h:Mx w0 P w B m) (j:Nat):w.frozen? ⟨B,j,none⟩=false:=by simp [World.frozen?,h.row]
theorem Mx.base (h:Mx w0 P w B m):Mx w (Foot B m) w B m :=
 {os:=rfl,tape:=rfl,output:=rfl,size:=Nat.le_refl _,kept:=fun _ _ _=>rfl,own:=fun k hk=>Or.inl hk
  low:=⟨Nat.le_trans h.low.1 h.size,fun k hk=>h.foot_low hk⟩
  gl:=fun j hj=>by
   have:=h.gl j hj
   rw [World.cell?_of_block (w:=w0) (h.kept _ (Nat.lt_of_lt_of_le (show 1<9 by decide) h.low.1) (fun hp=>absurd (h.low.2 _ hp) (show ¬ 9≤1 by decide)))]
   exact this
  row:=h.row,map:=h.map,came:=h.came,goes:=h.goes,apart:=h.apart,image:=h.image }
theorem Mx.join (h:Mx w0 P w B m) (k:Mx w (Foot B m) w' B m'):Mx w0 P w' B m' :=
 {os:=k.os.trans h.os,tape:=k.tape.trans h.tape,output:=k.output.trans h.output,size:=Nat.le_trans h.size k.size
  kept:=fun i hi hP=>(k.kept i (Nat.lt_of_lt_of_le hi h.size) (fun hf=>by
   rcases h.own i hf with e | e
   ·exact hP e
   ·omega)).trans (h.kept i hi hP)
  own:=fun i hi=>by
   rcases k.own i hi with e | e
   ·exact h.own i e
   ·exact Or.inr (Nat.le_trans h.size e)
  low:=h.low,gl:=h.gl,row:=k.row,map:=k.map,came:=k.came,goes:=k.goes,apart:=k.apart,image:=k.image }
theorem Mx.all (h:Mx w0 P w B m) (j:Nat) (hj:j<6):w.cell? ⟨1,j,none⟩=some (.int .u8 255):=h.base.gl j hj
theorem Mx.ne_cg (h:Mx w0 P w B m):m.cg≠B:=by
 intro e
 obtain ⟨a,b,c,d,arr,h1,h2,h3⟩:=h.came
 rw [e,h.row] at h1
 simp only [Option.some.injEq,Obj.cells.injEq] at h1
 have:m.cells.size=53:=rfl
 rw [h1.1] at this
 omega
theorem Mx.ne_gg (h:Mx w0 P w B m):m.gg≠B:=by
 intro e
 obtain ⟨a,b,c,d,arr,h1,h2,h3⟩:=h.goes
 rw [e,h.row] at h1
 simp only [Option.some.injEq,Obj.cells.injEq] at h1
 have:m.cells.size=53:=rfl
 rw [h1.1] at this
 omega
theorem Mx.ne_bm (h:Mx w0 P w B m):m.bm≠B:=by
 intro e
 obtain ⟨es,c,h1,h2⟩:=h.map
 rw [e,h.row] at h1
 simp at h1
theorem Mx.ne_img (h:Mx w0 P w B m) {k:Nat} (hk:m.img.ownBlock=some k):k≠B:=by
 intro e
 rcases h.image.2 with ⟨h1,_⟩ | ⟨g,cap,cur,e1,e2,e3,e4⟩
 ·rw [h1] at hk; cases hk
 ·rw [e1] at hk
  have:g=k:=Option.some.inj hk
  subst this e
  rw [h.row] at e3
  simp only [Option.some.injEq,Obj.cells.injEq] at e3
  exact absurd e3.2.1 (by decide)
end Go.Proofs.YtbhbbeebncmaiaaGreatDoor.Mac
namespace Go.Proofs.YtbhbbeebncmaiaaGreatDoor.Mac
open Go.ChangeShapes Go.WideShapes Go.ChangeAt Go.RowKit Bs
set_option linter.unusedVariables false
set_option linter.unusedSimpArgs false
structure Lk (w w':World):Prop where
 heap:w'.heap=w.heap
 os:w'.os=w.os
 tape:w'.tape=w.tape
 output:w'.output=w.output
theorem Mx.like {w0:World} {P:Nat→Prop} {w w':World} {B:Nat} {m:Mc} (h:Mx w0 P w B m) (k:Lk w w'):Mx w0 P w' B m :=
 h.turn k.os k.tape k.output (by rw [k.heap]; exact Nat.le_refl _) (fun i _ _=>by rw [k.heap])
set_option maxHeartbeats 1000000 in
theorem add_full (b o g n f:Nat) (s:ByteArray) (w:World) (c0:w.cell? ⟨b,o,none⟩=some (.slice (some ⟨g,0,none⟩) n n)) (c1:w.cell? ⟨b,o+1,none⟩=some (.int .i64 f)) (c2:w.cell? ⟨b,o+2,none⟩=some (.int .i64 n)) :
  Calls Tryz.prog 51 #[.pointer (some ⟨b,o,none⟩),.string s] w fun e w'=>e=.returned (.bool false)∧Lk w w':=by
 go_enter Tryz.func51,Tryz.ntmps51
 go_wp2
 go_quiet (fail)
 go_wp2
 go_ret
 exact ⟨rfl,⟨rfl,rfl,rfl,rfl⟩⟩
theorem mod_nat (a n:Nat):((a:Int)).tmod (n:Int)=((a % n:Nat):Int):=by rw [Int.tmod_eq_emod_of_nonneg (by omega)]; simp
set_option maxHeartbeats 1000000 in
theorem add_room (b o g n f c:Nat) (s:ByteArray) (v0:Value) (w:World) (c0:w.cell? ⟨b,o,none⟩=some (.slice (some ⟨g,0,none⟩) n n)) (c1:w.cell? ⟨b,o+1,none⟩=some (.int .i64 f)) (c2:w.cell? ⟨b,o+2,none⟩=some (.int .i64 c))
  (hc:c<n) (hf:f<n) (hn:n≤16) (hgb:g≠b) (q0:w.cell? ⟨g,(f+c) % n,none⟩=some v0) (q1:w.frozen? ⟨g,(f+c) % n,none⟩=false) (q2:w.frozen? ⟨b,o+2,none⟩=false) :
  Calls Tryz.prog 51 #[.pointer (some ⟨b,o,none⟩),.string s] w fun e w'=>e=.returned (.bool true)∧Lk ((w.setCell ⟨g,(f+c) % n,none⟩ (.string s)).setCell ⟨b,o+2,none⟩ (.int .i64 ((c:Int)+1))) w':=by
 have hne:((c:Int)==(n:Int))=false:=by simp; omega
 have hw1:IntKind.i64.wrap ((f:Int)+(c:Int))=(f:Int)+(c:Int):=wrap_i64 _ (by omega) (by omega)
 have hw2:IntKind.i64.wrap ((c:Int)+1)=(c:Int)+1:=wrap_i64 _ (by omega) (by omega)
 have hmod:((f:Int)+(c:Int)).tmod (n:Int)=(((f+c) % n:Nat):Int):=by rw [← mod_nat]; simp
 have hlt:(f+c) % n<n:=Nat.mod_lt _ (by omega)
 generalize (f+c) % n=j at *
 have hn0:¬ (n:Int)=0:=by omega
 have hbg:b≠g:=fun e=>hgb e.symm
 go_enter Tryz.func51,Tryz.ntmps51
 go_wp2
 go_quiet (fail)
 go_wp2
 go_region
 go_wp2
 go_ret
 exact ⟨rfl,⟨rfl,rfl,rfl,rfl⟩⟩
set_option maxHeartbeats 1000000 in
theorem next_none (b o:Nat) (w:World) (c2:w.cell? ⟨b,o+2,none⟩=some (.int .i64 0)) :
  Calls Tryz.prog 52 #[.pointer (some ⟨b,o,none⟩)] w fun e w'=>e=.returned (.tuple #[.string ⟨#[]⟩,.bool false])∧w'=w:=by
 go_enter Tryz.func52,Tryz.ntmps52
 go_wp2
 go_ret2
 exact ⟨rfl,rfl⟩
set_option maxHeartbeats 1000000 in
theorem next_one (b o g n f c:Nat) (s:ByteArray) (w:World) (c0:w.cell? ⟨b,o,none⟩=some (.slice (some ⟨g,0,none⟩) n n)) (c1:w.cell? ⟨b,o+1,none⟩=some (.int .i64 f)) (c2:w.cell? ⟨b,o+2,none⟩=some (.int .i64 c))
  (hc:0<c) (hcn:c≤n) (hf:f<n) (hn:n≤16) (hgb:g≠b) (q0:w.cell? ⟨g,f,none⟩=some (.string s)) (q1:w.frozen? ⟨g,f,none⟩=false) (q2:w.frozen? ⟨b,o+2,none⟩=false) (q3:w.frozen? ⟨b,o+1,none⟩=false) :
  Calls Tryz.prog 52 #[.pointer (some ⟨b,o,none⟩)] w fun e w'=>e=.returned (.tuple #[.string s,.bool true])∧Lk (((w.setCell ⟨g,f,none⟩ (.string ⟨#[]⟩)).setCell ⟨b,o+1,none⟩ (.int .i64 (((f+1) % n:Nat):Int))).setCell ⟨b,o+2,none⟩ (.int .i64 ((c:Int) - 1))) w':=by
 have hne:((c:Int)==0)=false:=by simp; omega
 have hw1:IntKind.i64.wrap ((f:Int)+1)=(f:Int)+1:=wrap_i64 _ (by omega) (by omega)
 have hw2:IntKind.i64.wrap ((c:Int) - 1)=(c:Int) - 1:=wrap_i64 _ (by omega) (by omega)
 have hmod:((f:Int)+1).tmod (n:Int)=(((f+1) % n:Nat):Int):=by rw [← mod_nat]; simp
 generalize (f+1) % n=j at *
 have hn0:¬ (n:Int)=0:=by omega
 have hbg:b≠g:=fun e=>hgb e.symm
 go_enter Tryz.func52,Tryz.ntmps52
 go_wp2
 go_quiet (fail)
 go_wp2
 go_region
 go_wp2
 go_region
 go_wp2
 go_ret2
 exact ⟨rfl,⟨rfl,rfl,rfl,rfl⟩⟩
end Go.Proofs.YtbhbbeebncmaiaaGreatDoor.Mac
namespace Go.Proofs.YtbhbbeebncmaiaaGreatDoor.Dh
open Go.ChangeShapes Go.WideShapes Go.ChangeAt Go.RowKit Bs
open Rd (Rdr errP)
set_option linter.unusedVariables false
set_option linter.unusedSimpArgs false
theorem heavy_cons (p:Pc) (r:List Pc):heavy (p::r)=1+p.2.length+heavy r:=by
 simp only [heavy,List.length_cons,List.map_cons,List.sum_cons]; omega
theorem heavy_append (a b:List Pc):heavy (a++b)=heavy a+heavy b:=by
 simp only [heavy,List.map_append,List.sum_append,List.length_append]; omega
theorem heavy_pieces (n:Nat):∀ (l:List UInt8) (ps:List Pc),l.length≤n→pieces l=some ps→heavy ps≤l.length:=by
 induction n with
 | zero =>
  intro l ps hl h
  match l,hl with
  | [],_=>rw [pieces_nil] at h; cases h
 | succ n ih =>
  intro l ps hl h
  match l,hl with
  | [],_=>rw [pieces_nil] at h; cases h
  | c::r,hl =>
   by_cases e1:c.toNat=255
   ·rw [pieces_end c r e1] at h
    cases h
    simp [heavy]
   ·by_cases e0:c.toNat=0
    ·rw [pieces_none c r e0] at h
     have:=ih r ps (by simp at hl; omega) h
     simp only [List.length_cons]; omega
    ·match r,hl with
     | [],_=>rw [pieces_lone c e1 e0] at h; cases h
     | m::q,hl =>
      by_cases hq:q.length<m.toNat
      ·rw [pieces_few c m q e1 e0 hq] at h; cases h
      ·have h':=(pieces_more c m q e1 e0 hq).symm.trans h
       cases hp:pieces (q.drop m.toNat) with
       | none=>rw [hp] at h'; cases h'
       | some ps' =>
        rw [hp] at h'
        obtain rfl:=Option.some.inj h'
        have:=ih (q.drop m.toNat) ps' (by simp at hl ⊢; omega) hp
        rw [List.length_drop] at this
        rw [heavy_cons]
        simp only [List.length_cons,List.length_take]
        omega
theorem drop_heavy (ps:List Pc) (c:UInt8):heavy (drop ps c)≤heavy ps:=by
 induction ps with
 | nil=>exact Nat.le_refl _
 | cons p r ih =>
  simp only [drop,List.filter_cons] at ih ⊢
  split
  ·rw [heavy_cons,heavy_cons]; omega
  ·rw [heavy_cons]; omega

def moreAll:List ByteArray→Option (List Pc)
 | []=>some []
 | a::r=>(pieces a.data.toList).bind fun p=>(moreAll r).map fun q=>p++q
def strsOf (ps:List Pc) (host file:ByteArray):List ByteArray:=if has ps 52 then areaS (data ps 52) host file else []
theorem strs_le (ps:List Pc) (host file:ByteArray):(strsOf ps host file).length≤2:=by
 unfold strsOf areaS
 split
 ·rw [List.length_append]; split <;> split <;> simp
 ·simp
theorem strs_mem (ps:List Pc) (host file:ByteArray) (n:Nat) (hh:host.size≤n) (hf:file.size≤n):∀ s ∈ strsOf ps host file,s.size≤n:=fun s hs=>by
 unfold strsOf areaS at hs
 split at hs
 ·rw [List.mem_append] at hs
  rcases hs with hs | hs
  ·split at hs
   ·simp at hs; subst hs; exact hf
   ·simp at hs
  ·split at hs
   ·simp at hs; subst hs; exact hh
   ·simp at hs
 ·simp at hs
theorem moreP_all (d:List UInt8) (host file:ByteArray):moreP (inF d) (inH d) file.data.toList host.data.toList=moreAll (areaS d host file):=by
 unfold moreP areaS
 cases hF:inF d <;> cases hH:inH d
 ·rfl
 ·simp only [moreAll,Bool.false_eq_true,if_false,if_true,List.nil_append]
  cases pieces host.data.toList <;> simp
 ·simp only [moreAll,Bool.false_eq_true,if_false,if_true,List.append_nil]
  cases pieces file.data.toList <;> simp
 ·simp only [moreAll,if_true,List.cons_append,List.nil_append]
  cases pieces file.data.toList <;> cases pieces host.data.toList <;> simp
theorem optK_none (l:List UInt8) (host file:ByteArray) (h:pieces l=none):optK l host.data.toList file.data.toList=1:=by rw [optK,h]
theorem optK_bad (l:List UInt8) (host file:ByteArray) (ps:List Pc) (h:pieces l=some ps) (h1:has ps 52=true) (h2:areaD (data ps 52)=false):optK l host.data.toList file.data.toList=2:=by
 rw [optK,h]; simp [h1,h2]
theorem optK_some (l:List UInt8) (host file:ByteArray) (ps:List Pc) (h:pieces l=some ps) (h1:has ps 52=true→areaD (data ps 52)=true) :
  optK l host.data.toList file.data.toList=(match moreAll (strsOf ps host file) with | none=>1 | some m=>if has m 52 then 2 else 0):=by
 rw [optK,h]
 unfold strsOf
 cases hh:has ps 52
 ·simp only [hh,Bool.false_eq_true,if_false,moreAll]
  rfl
 ·have h2:=h1 hh
  simp only [hh,if_true,h2,moreP_all]
  cases moreAll (areaS (data ps 52) host file) <;> rfl
theorem optL_some (l:List UInt8) (host file:ByteArray) (ps m:List Pc) (h:pieces l=some ps) (hm:moreAll (strsOf ps host file)=some m) :
  optL l host.data.toList file.data.toList=addAll [] (drop ps 52++m):=by
 rw [optL,h]
 unfold strsOf at hm
 cases hh:has ps 52
 ·rw [hh] at hm
  simp [moreAll] at hm
  subst hm
  simp only [hh,Bool.false_eq_true,if_false,List.append_nil,drop_no ps 52 hh]
 ·rw [hh] at hm
  simp only [if_true] at hm
  simp only [hh,if_true]
  rw [moreP_all,hm]
theorem moreAll_step (aa:List ByteArray) (k:Nat) (h:k<aa.length) (ms qs:List Pc) (h0:moreAll aa=(moreAll (aa.drop k)).map fun x=>ms++x) (hp:pieces aa[k].data.toList=some qs) :
  moreAll aa=(moreAll (aa.drop (k+1))).map fun x=>(ms++qs)++x:=by
 refine h0.trans ?_
 rw [List.drop_eq_getElem_cons h,moreAll,hp]
 cases moreAll (aa.drop (k+1)) with
 | none=>rfl
 | some x=>simp
theorem moreAll_no (aa:List ByteArray) (k:Nat) (h:k<aa.length) (ms:List Pc) (h0:moreAll aa=(moreAll (aa.drop k)).map fun x=>ms++x) (hp:pieces aa[k].data.toList=none):moreAll aa=none:=by
 refine h0.trans ?_
 rw [List.drop_eq_getElem_cons h,moreAll,hp]
 rfl

def SA (w:World) (a:Option Addr) (ss:List ByteArray):Prop:=∀ i (h:i<ss.length),∃ ad,a=some ad∧w.cell? (ad.add i)=some (.string ss[i])
theorem SA.below {w w':World} {a:Option Addr} {ss:List ByteArray} {n:Nat} (h:SA w a ss) (hb:Below n w w') (hn:w.heap.size≤n):SA w' a ss:=fun i hi=>by
 obtain ⟨ad,e,h0⟩:=h i hi
 have l0:=cell_lt h0
 exact ⟨ad,e,by rw [hb.cell (by omega)]; exact h0⟩
theorem SA.own {w:World} {b:Nat} {ao:Option Addr} {cp:Nat} {ss:List ByteArray} (h:w.ownsRow b 9 1 (.slice ao ss.length cp) ss.length (ss.map Value.string)):SA w ao ss:=fun i hi=>by
 obtain ⟨g,rfl,_⟩:=own_some h (by omega)
 exact ⟨⟨g,0,none⟩,rfl,h.cells (g:=g) rfl i _ (by simp [hi])⟩
theorem At.own {w:World} {b:Nat} {ao:Option Addr} {cp:Nat} {os:Opts} (h:w.ownsRow b 151 2 (.slice ao os.length cp) os.length (cellsO os)):At w ao os:=by
 by_cases hn:0<os.length
 ·obtain ⟨g,rfl,_⟩:=own_some h hn
  exact At.ofCells (h.cells (g:=g) rfl)
 ·exact fun i hi=>by omega
theorem own_cases {w:World} {b e z:Nat} {v:Value} {n:Nat} {xs:List Value} (h:w.ownsRow b e z v n xs):(v=.slice none 0 0∧n=0)∨∃ g cp,v=.slice (some ⟨g,0,none⟩) n cp:=by
 rcases h.2 with h0 | ⟨g,cap,cur,rfl,_⟩
 ·exact Or.inl h0
 ·exact Or.inr ⟨g,cap,rfl⟩
end Go.Proofs.YtbhbbeebncmaiaaGreatDoor.Dh
namespace Go.Proofs.YtbhbbeebncmaiaaGreatDoor.Dh
open Go.ChangeShapes Go.WideShapes Go.ChangeAt Go.RowKit Bs
open Rd (Rdr errP grown_below grown_trans must_if must_else)
set_option linter.unusedVariables false
set_option linter.unusedSimpArgs false
theorem own_below {w w':World} {b e z:Nat} {v:Value} {n:Nat} {xs:List Value} (h:w.ownsRow b e z v n xs) (hb:Below w.heap.size w w'):w'.ownsRow b e z v n xs :=
 h.kept (w':=w') (row:=none) ⟨hb.os,hb.tape,hb.output,hb.size,fun i hi _=>hb.block i hi⟩ (by cases h:v.ownBlock <;> simp)
def AllPost (l:List UInt8) (host file:ByteArray) (B:Nat) (w:World) (e:Ending) (w':World):Prop :=
 w.grownBy w' (some B)∧(if optK l host.data.toList file.data.toList=0 then ∃ v,e=.returned v∧w'.ownsRow w.heap.size 151 2 v (optL l host.data.toList file.data.toList).length (cellsO (optL l host.data.toList file.data.toList)) else e=.panicked (errP (optK l host.data.toList file.data.toList)))
theorem all_panic {l:List UInt8} {host file:ByteArray} {B:Nat} {w w':World} (k:Nat) (hk:optK l host.data.toList file.data.toList=k) (h0:k≠0) (hg:w.grownBy w' (some B)):AllPost l host file B w (.panicked (errP k)) w':=by
 refine ⟨hg,?_⟩
 rw [hk,if_neg h0]

set_option maxHeartbeats 4000000 in
set_option maxRecDepth 10000 in
theorem all_any (B:Nat) (l:List UInt8) (host file:ByteArray) (w:World) (h:Rdr w B l) (hl:l.length≤1048576) (hh:host.size≤1048576) (hf:file.size≤1048576) :
  Calls Tryz.prog 278 #[.pointer (some ⟨B,0,none⟩),.string host,.string file] w fun e w'=>AllPost l host file B w e w':=by
 obtain ⟨i1,hj,hy0,hy1,hy2⟩:=info_parts infoOpt
 have HR:=hide h
 have hB:=h.lt
 clear h
 go_enter Tryz.func278,Tryz.ntmps278
 go_wp2_with fail
 refine (opts_any B l _ (unhide HR) (by omega)).mono ?_
 rintro e w1 ⟨hg1,hpost⟩
 cases hp:pieces l with
 | none =>
  rw [hp] at hpost
  simp only at hpost
  subst hpost
  exact ⟨rfl,all_panic 1 (optK_none l host file hp) (by omega) hg1⟩
 | some ps =>
  rw [hp] at hpost
  obtain ⟨v1,rfl,hown1⟩:=hpost
  obtain ⟨ao1,cp1,rfl⟩:=own_slice hown1
  have hps:=heavy_pieces l.length l ps (Nat.le_refl _) hp
  have HA1:=hide (At.own hown1)
  have HG1:=hide hg1
  have hz1:=hg1.size
  have HP:=hide hp
  have HAR:=hide (areas_any ao1 cp1 ps host file w1 (unhide HA1) (by omega))
  clear hg1 hp hown1
  go_wp2_with fail
  refine (unhide HAR).mono ?_
  rintro e w2 ⟨hb2,harea⟩
  have HB2:=hide hb2
  have hz2:=hb2.size
  by_cases hbad:has ps 52=true∧areaD (data ps 52)=false
  ·rw [if_pos hbad.1,if_neg (by rw [hbad.2]; decide)] at harea
   subst harea
   exact ⟨rfl,all_panic 2 (optK_bad l host file ps (unhide HP) hbad.1 hbad.2) (by omega) (grown_below (unhide HG1) hb2)⟩
  ·have hok:has ps 52=true→areaD (data ps 52)=true:=fun h1=>by
    by_cases h2:areaD (data ps 52)=true
    ·exact h2
    ·exact absurd ⟨h1,by simpa using h2⟩ hbad
   have hcom:∃ a2 c2,e=.returned (.slice a2 (strsOf ps host file).length c2)∧SA w2 a2 (strsOf ps host file):=by
    unfold strsOf
    by_cases h1:has ps 52=true
    ·rw [if_pos h1,if_pos (hok h1)] at harea
     obtain ⟨v,rfl,hv⟩:=harea
     obtain ⟨a2,c2,rfl⟩:=own_slice hv
     rw [if_pos h1]
     exact ⟨a2,c2,rfl,SA.own hv⟩
    ·rw [if_neg h1] at harea
     rw [if_neg h1]
     exact ⟨none,0,harea,fun i hi=>by simp at hi⟩
   obtain ⟨a2,c2,rfl,hsa⟩:=hcom
   have hsl:=strs_le ps host file
   have HSM:=hide (strs_mem ps host file 1048576 hh hf)
   have HK:=hide (optK_some l host file ps (unhide HP) hok)
   have HLL:=hide (fun m=>optL_some l host file ps m (unhide HP))
   obtain ⟨ss,hss⟩:∃ ss,ss=strsOf ps host file:=⟨_,rfl⟩
   rw [← hss] at hsa hsl HSM HK HLL ⊢
   have HSA:=hide hsa
   clear harea hb2 hbad hok hsa hss HAR
   go_wp2
   go_loopw [8,21] (fun v8 i wr=>∃ (k:Nat) (ms:List Pc),k≤ss.length∧i=.int .i64 k∧heavy ms≤1048576*k∧Hid (moreAll ss=(moreAll (ss.drop k)).map fun x=>ms++x)∧Hid (wr.ownsRow w2.heap.size 151 2 v8 ms.length (cellsO ms))∧Hid (Below w2.heap.size w2 wr)) (fun _ i _=>ss.length - (intOf i).toNat)
   case atStart=>exact ⟨0,[],Nat.zero_le _,rfl,by simp [heavy],hide (by simp),hide (World.ownsRow_nil _ _ _ _),hide (Below.refl _ _)⟩
   case round =>
    obtain ⟨k,ms,hk,rfl,hmh,HM,HO,HW⟩:=hrel
    rename World=>wr
    have hmsl:ms.length≤heavy ms:=by unfold heavy; omega
    have hwz:=(unhide HW).size
    by_cases hlt:k<ss.length
    ·obtain ⟨ad,rfl,c0⟩:=(unhide HSA).below (unhide HW) (Nat.le_refl _) k hlt
     have hsz:=unhide HSM _ (List.getElem_mem hlt)
     obtain ⟨s,hs⟩:∃ s,s=ss[k]:=⟨_,rfl⟩
     rw [← hs] at c0 hsz
     have HMS:=hide (moreAll_step ss k hlt ms)
     have HMN:=hide (moreAll_no ss k hlt ms (unhide HM))
     rw [← hs] at HMS HMN
     have hRd:Rdr (wr.alloc (.cells #[.string s] 217)) wr.heap.size s.data.toList:=by
      have q:=heap_alloc_new wr (.cells #[.string s] 217)
      unfold Rdr
      rw [Rd.str_eta]
      exact q
     have HOP:=hide (opts_any wr.heap.size s.data.toList _ hRd (by rw [Array.length_toList]; show s.size≤_; omega))
     have hhq:s.data.toList.length≤1048576:=by rw [Array.length_toList]; exact hsz
     clear hRd hs
     go_wp2_with fail
     refine (unhide HOP).mono ?_
     rintro e w3 ⟨hg3,hpost⟩
     have hB3:Below w2.heap.size w2 w3:=((unhide HW).alloc hwz _).grown hg3 (by simp; omega) (fun x hx=>by cases hx; omega)
     have hO3:=((unhide HO).alloc (.cells #[.string s] 217)).kept hg3 (not_row (fun g hg e=>by cases e; have:=((unhide HO).lt _ hg).2; omega))
     cases hp:pieces s.data.toList with
     | none =>
      rw [hp] at hpost
      simp only at hpost
      subst hpost
      refine ⟨rfl,all_panic 1 ?_ (by omega) (grown_below (grown_below (unhide HG1) (unhide HB2)) hB3)⟩
      rw [unhide HK,unhide HMN hp]
     | some qs =>
      rw [hp] at hpost
      obtain ⟨v3,rfl,hown3⟩:=hpost
      have hqh:=heavy_pieces _ s.data.toList qs (Nat.le_refl _) hp
      have hqs:qs.length≤heavy qs:=by unfold heavy; omega
      have HST:=hide (unhide HMS qs (unhide HM) hp)
      have O3:=hide hO3
      have B3:=hide hB3
      have Q3:=hide hown3
      have hz3:=hB3.size
      clear hg3 hO3 hB3 HM HMS HMN hp HOP
      rcases own_cases hown3 with ⟨rfl,hq0⟩ | ⟨g3,cp3,rfl⟩
      ·have hqn:qs=[]:=List.eq_nil_of_length_eq_zero hq0
       subst hqn
       clear hown3
       go_wp2_with (at_builtin; refine wpList_append_own_none rfl (.tmp 27) (.tmp 28) 184 rfl w2.heap.size 151 i1 2 Tryz.underlying184 hj _ _ _ rfl (unhide O3) rfl ?_)
       obtain ⟨a8,c8,hv8⟩:=own_slice (unhide O3)
       subst hv8
       go_wp2
       go_roundw
       case rel=>exact ⟨k+1,ms,by omega,by go_num,by omega,hide (by have q:=unhide HST; rwa [List.append_nil] at q),O3,B3⟩
       case measure=>simp [intOf]; omega
      ·have hcs:=hown3.cells (g:=g3) rfl
       have HCS:=hide hcs
       have HLN:=hide (cellsO_length qs)
       have hO3z:=(unhide O3)
       clear hown3 hcs hO3z
       go_wp2_with (at_builtin; refine wpList_append_own _ rfl (.tmp 27) (.tmp 28) 184 rfl w2.heap.size 151 i1 (.agg #[.int .u8 0,.string ⟨#[]⟩]) 2 24 Tryz.underlying184 hj hy0 hy1 hy2 rfl (by decide) _ _ _ rfl (unhide O3) ⟨g3,0,none⟩ qs.length cp3 (cellsO qs) rfl (unhide HLN) (unhide HCS) (cellsO_one _) ?h63 ?hby ?hba ?_)
       case h63=>simp only [maxLen]; omega
       case hby=>omega
       case hba=>omega
       ·intro v' w4 hown4 hg4 _
        have hB4:Below w2.heap.size w2 w4:=(unhide B3).grown hg4 hz3 (fun x hx=>((unhide O3).lt x hx).1)
        have hO4:w4.ownsRow w2.heap.size 151 2 v' (ms++qs).length (cellsO (ms++qs)):=by rw [List.length_append,cellsO_append]; exact hown4
        obtain ⟨a8,c8,hv8⟩:=own_slice hown4
        have O4:=hide hO4
        have B4:=hide hB4
        clear hown4 hg4 hB4 hO4
        subst hv8
        go_wp2
        go_roundw
        case rel=>exact ⟨k+1,ms++qs,by omega,by go_num,by rw [heavy_append]; omega,HST,O4,B4⟩
        case measure=>simp [intOf]; omega
    ·have e0:k=ss.length:=by omega
     subst e0
     have hMA:moreAll ss=some ms:=by
      refine (unhide HM).trans ?_
      rw [List.drop_length,moreAll]
      simp
     have HKK:=hide (show optK l host.data.toList file.data.toList=if has ms 52 then 2 else 0 by rw [unhide HK,hMA])
     have HOL:=hide (unhide HLL ms hMA)
     obtain ⟨a8,c8,hv8⟩:=own_slice (unhide HO)
     subst hv8
     have hmh2:heavy ms≤2097152:=by omega
     have HD:=hide (data_52 a8 c8 ms wr (At.own (unhide HO)) (by omega))
     clear HM hMA HK HLL HSM HSA hmh
     go_wp2_with fail
     refine (unhide HD).mono ?_
     rintro e w5 ⟨rfl,hb5⟩
     have hB5:Below w2.heap.size w2 w5:=(unhide HW).trans (hb5.mono hwz)
     have hO5:=own_below (unhide HO) hb5
     have B5:=hide hB5
     have O5:=hide hO5
     have hz5:=hB5.size
     clear hb5 hB5 hO5 HD HO
     by_cases hag:has ms 52=true
     ·rw [hag]
      go_wp2_with fail
      refine (must_else _ (by simp) _ _).mono ?_
      rintro e w6 ⟨rfl,rfl⟩
      refine ⟨rfl,all_panic 2 ?_ (by omega) (grown_below (grown_below (unhide HG1) (unhide HB2)) (unhide B5))⟩
      rw [unhide HKK,if_pos hag]
     ·have hag':has ms 52=false:=by simpa using hag
      have HK0:Hid (optK l host.data.toList file.data.toList=0):=hide (by rw [unhide HKK,if_neg hag])
      rw [hag']
      clear hag HKK
      go_wp2_with fail
      refine (must_if _ (by simp) _ _).mono ?_
      rintro e w6 ⟨rfl,rfl⟩
      have HWO:=hide (without_52 ao1 cp1 ps w6 (((unhide HA1).below (unhide HB2) (Nat.le_refl _)).below (unhide B5) (Nat.le_refl _)) (by omega))
      go_wp2_with fail
      refine (unhide HWO).mono ?_
      rintro e w7 ⟨v7,rfl,hown7,hb7⟩
      have hdh:=drop_heavy ps 52
      have hdl:(drop ps 52).length≤heavy (drop ps 52):=by unfold heavy; omega
      have hB7:Below w2.heap.size w2 w7:=(unhide B5).trans (hb7.mono hz5)
      have hO7:=own_below (unhide O5) hb7
      have hz7:=hb7.size
      have O7:=hide hown7
      have Q7:=hide hO7
      have B7:=hide hB7
      clear hown7 hb7 hO7 hB7 HWO O5 B5
      rcases own_cases (unhide Q7) with ⟨hnil,hq0⟩ | ⟨g8,cp8,hsl8⟩
      ·have hmn:ms=[]:=List.eq_nil_of_length_eq_zero hq0
       subst hmn
       cases hnil
       go_wp2_with (at_builtin; refine wpList_append_own_none rfl (.tmp 40) (.tmp 41) 184 rfl w6.heap.size 151 i1 2 Tryz.underlying184 hj _ _ _ rfl (unhide O7) rfl ?_)
       have hO8:w7.ownsRow w6.heap.size 151 2 v7 (drop ps 52++[]).length (cellsO (drop ps 52++[])):=by rw [List.append_nil]; exact unhide O7
       obtain ⟨X,hX⟩:∃ X,X=drop ps 52++[]:=⟨_,rfl⟩
       have hXh:heavy X≤3145728:=by rw [hX,heavy_append]; simp only [heavy,List.length_nil,List.map_nil,List.sum_nil] at hdh hps ⊢; omega
       rw [← hX] at hO8 HOL
       clear hX
       obtain ⟨a10,c10,hv10⟩:=own_slice hO8
       subst hv10
       have HJN:=hide (joined_any a10 c10 X w7 (At.own hO8) (by omega))
       go_wp2_with fail
       refine (unhide HJN).mono ?_
       rintro e w9 ⟨v9,rfl,hown9,hb9⟩
       obtain ⟨a11,c11,hv11⟩:=own_slice hown9
       subst hv11
       have O9:=hide hown9
       have B9:=hide ((unhide B7).trans (hb9.mono (by omega)))
       have hz9:w.heap.size≤w7.heap.size:=by omega
       clear hown9 hb9
       go_wp2
       go_ret
       refine ⟨grown_below (grown_below (unhide HG1) (unhide HB2)) (unhide B9),?_⟩
       rw [unhide HK0,if_pos rfl,unhide HOL]
       exact ⟨_,rfl,own_mono (unhide O9) hz9⟩
      ·cases hsl8
       have HCS:=hide ((unhide Q7).cells (g:=g8) rfl)
       have HLN:=hide (cellsO_length ms)
       go_wp2_with (at_builtin; refine wpList_append_own _ rfl (.tmp 40) (.tmp 41) 184 rfl w6.heap.size 151 i1 (.agg #[.int .u8 0,.string ⟨#[]⟩]) 2 24 Tryz.underlying184 hj hy0 hy1 hy2 rfl (by decide) _ _ _ rfl (unhide O7) ⟨g8,0,none⟩ ms.length _ (cellsO ms) rfl (unhide HLN) (unhide HCS) (cellsO_one _) ?h63 ?hby ?hba ?_)
       case h63=>simp only [maxLen]; omega
       case hby=>omega
       case hba=>omega
       ·intro v10 w8 hown8 hg8 _
        have hB8:Below w2.heap.size w2 w8:=(unhide B7).grown hg8 (by omega) (fun x hx=>by have:=((unhide O7).lt x hx).1; omega)
        have hO8:w8.ownsRow w6.heap.size 151 2 v10 (drop ps 52++ms).length (cellsO (drop ps 52++ms)):=by rw [List.length_append,cellsO_append]; exact hown8
        have hz8:=hg8.size
        have B8:=hide hB8
        clear hown8 hg8 hB8
        obtain ⟨X,hX⟩:∃ X,X=drop ps 52++ms:=⟨_,rfl⟩
        have hXh:heavy X≤3145728:=by rw [hX,heavy_append]; omega
        rw [← hX] at hO8 HOL
        clear hX
        obtain ⟨a10,c10,hv10⟩:=own_slice hO8
        subst hv10
        have HJN:=hide (joined_any a10 c10 X w8 (At.own hO8) (by omega))
        go_wp2_with fail
        refine (unhide HJN).mono ?_
        rintro e w9 ⟨v9,rfl,hown9,hb9⟩
        obtain ⟨a11,c11,hv11⟩:=own_slice hown9
        subst hv11
        have O9:=hide hown9
        have B9:=hide ((unhide B8).trans (hb9.mono (by omega)))
        have hz9:w.heap.size≤w8.heap.size:=by omega
        clear hown9 hb9
        go_wp2
        go_ret
        refine ⟨grown_below (grown_below (unhide HG1) (unhide HB2)) (unhide B9),?_⟩
        rw [unhide HK0,if_pos rfl,unhide HOL]
        exact ⟨_,rfl,own_mono (unhide O9) hz9⟩
end Go.Proofs.YtbhbbeebncmaiaaGreatDoor.Dh
