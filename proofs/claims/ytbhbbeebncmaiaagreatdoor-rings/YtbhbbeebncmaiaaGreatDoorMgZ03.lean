import Derived.Test.YtbhbbeebncmaiaaGreatDoorMgZ12
import Derived.Test.YtbhbbeebncmaiaaGreatDoorMgZ01
import Derived.Test.YtbhbbeebncmaiaaGreatDoorMgZ02
namespace Go.Proofs.YtbhbbeebncmaiaaGreatDoor.Mac
open Go.ChangeShapes Go.WideShapes Go.ChangeAt Go.RowKit Bs
set_option linter.unusedVariables false
set_option linter.unusedSimpArgs false
variable {w0 : World} {P : Nat → Prop} {w w' : World} {B : Nat} {m m' : Mc}
theorem Mx.c0 (h:Mx w0 P w B m):w.cell? ⟨B,0,none⟩=some (.map (some m.bm)):=h.cell 0
theorem Mx.c1 (h:Mx w0 P w B m):w.cell? ⟨B,1,none⟩=some (.int .u8 m.k0.toNat):=h.cell 1
theorem Mx.c2 (h:Mx w0 P w B m):w.cell? ⟨B,2,none⟩=some (.int .u8 m.k1.toNat):=h.cell 2
theorem Mx.c3 (h:Mx w0 P w B m):w.cell? ⟨B,3,none⟩=some (.int .u8 m.k2.toNat):=h.cell 3
theorem Mx.c4 (h:Mx w0 P w B m):w.cell? ⟨B,4,none⟩=some (.int .u8 m.k3.toNat):=h.cell 4
theorem Mx.c5 (h:Mx w0 P w B m):w.cell? ⟨B,5,none⟩=some (.int .u8 m.k4.toNat):=h.cell 5
theorem Mx.c6 (h:Mx w0 P w B m):w.cell? ⟨B,6,none⟩=some (.int .u8 m.k5.toNat):=h.cell 6
theorem Mx.c16 (h:Mx w0 P w B m):w.cell? ⟨B,16,none⟩=some (.slice (some ⟨m.cg,0,none⟩) m.rx m.rx):=h.cell 16
theorem Mx.c17 (h:Mx w0 P w B m):w.cell? ⟨B,17,none⟩=some (.int .i64 m.cf):=h.cell 17
theorem Mx.c18 (h:Mx w0 P w B m):w.cell? ⟨B,18,none⟩=some (.int .i64 m.cq.length):=h.cell 18
theorem Mx.c19 (h:Mx w0 P w B m):w.cell? ⟨B,19,none⟩=some (.slice (some ⟨m.gg,0,none⟩) m.tx m.tx):=h.cell 19
theorem Mx.c20 (h:Mx w0 P w B m):w.cell? ⟨B,20,none⟩=some (.int .i64 m.gf):=h.cell 20
theorem Mx.c21 (h:Mx w0 P w B m):w.cell? ⟨B,21,none⟩=some (.int .i64 m.gq.length):=h.cell 21
theorem Mx.c25 (h:Mx w0 P w B m):w.cell? ⟨B,25,none⟩=some (.int .i64 m.st):=h.cell 25
theorem Mx.c26 (h:Mx w0 P w B m):w.cell? ⟨B,26,none⟩=some (.int .u32 m.xid):=h.cell 26
theorem Mx.c27 (h:Mx w0 P w B m):w.cell? ⟨B,27,none⟩=some (.int .u32 m.adr):=h.cell 27
theorem Mx.c40 (h:Mx w0 P w B m):w.cell? ⟨B,40,none⟩=some (.int .i64 m.phase):=h.cell 40
theorem mod_two (a n:Nat) (h:a<2*n):a % n=if a<n then a else a - n:=by
 split
 ·exact Nat.mod_eq_of_lt (by assumption)
 ·rw [Nat.mod_eq_sub_mod (by omega),Nat.mod_eq_of_lt (by omega)]
theorem row_set {g:Nat} {c:Array Value} {t:TypeId} (u:World) (j:Nat) (v:Value) (hu:u.heap[g]?=some (.cells c t (0,0))):(u.setCell ⟨g,j,none⟩ v).heap[g]?=some (.cells (c.setIfInBounds j v) t (0,0)):=by
 rw [setCell_eq_setRow u g j _ _ _ _ hu,setRow_heap u g _ _ _ _ hu]
theorem Slots.add {g n f:Nat} {q:List ByteArray} (h:Slots w g n f q) (s:ByteArray) (hr:q.length<n):Slots (w.setCell ⟨g,(f+q.length) % n,none⟩ (.string s)) g n f (q++[s]):=by
 obtain ⟨a,b,c,d,arr,h1,h2,h3⟩:=h
 refine ⟨a,b,c,by simp; omega,arr.setIfInBounds ((f+q.length) % n) (.string s),row_set w _ _ h1,by simp [h2],fun i hi=>?_⟩
 have hi2:i≤q.length:=by simp at hi; omega
 have hm:=Nat.mod_lt (f+q.length) a
 rcases Nat.lt_or_eq_of_le hi2 with hlt | rfl
 ·rw [List.getElem_append_left hlt,Array.getElem?_setIfInBounds,if_neg]
  ·exact h3 i hlt
  ·rw [mod_two _ n (by omega),mod_two _ n (by omega)]
   split <;> split <;> omega
 ·simp [Array.getElem?_setIfInBounds,h2,hm]
theorem Slots.next {g n f:Nat} {s:ByteArray} {q:List ByteArray} (h:Slots w g n f (s::q)) (v:Value):Slots (w.setCell ⟨g,f,none⟩ v) g n ((f+1) % n) q:=by
 obtain ⟨a,b,c,d,arr,h1,h2,h3⟩:=h
 have hm:=Nat.mod_lt (f+1) a
 simp only [List.length_cons] at d
 refine ⟨a,b,hm,by omega,arr.setIfInBounds f v,row_set w _ _ h1,by simp [h2],fun i hi=>?_⟩
 have q1:=h3 (i+1) (by simp; omega)
 rw [Array.getElem?_setIfInBounds,if_neg]
 ·rw [mod_two (f+1) n (by omega)]
  simp only [List.getElem_cons_succ] at q1
  rw [← q1]
  congr 1
  split
  ·congr 1; omega
  ·rw [mod_two _ n (by omega),mod_two _ n (by omega)]
   split <;> split <;> omega
 ·rw [mod_two (f+1) n (by omega)]
  split
  ·rw [mod_two _ n (by omega)]; split <;> omega
  ·rw [mod_two _ n (by omega)]; split <;> omega
theorem Slots.first {g n f:Nat} {s:ByteArray} {q:List ByteArray} (h:Slots w g n f (s::q)):w.cell? ⟨g,f,none⟩=some (.string s):=by
 obtain ⟨a,b,c,d,arr,h1,h2,h3⟩:=h
 have q1:=h3 0 (by simp)
 rw [cell_of_row w _ f _ _ _ h1]
 rw [Nat.add_zero,Nat.mod_eq_of_lt c] at q1
 exact q1
theorem Slots.some {g n f:Nat} {q:List ByteArray} (h:Slots w g n f q) (j:Nat) (hj:j<n):∃ v,w.cell? ⟨g,j,none⟩=some v:=by
 obtain ⟨a,b,c,d,arr,h1,h2,h3⟩:=h
 rw [cell_of_row w _ j _ _ _ h1]
 exact ⟨arr[j],Array.getElem?_eq_getElem (by omega)⟩
theorem Slots.free {g n f:Nat} {q:List ByteArray} (h:Slots w g n f q) (j:Nat):w.frozen? ⟨g,j,none⟩=false:=by
 obtain ⟨a,b,c,d,arr,h1,h2,h3⟩:=h
 simp [World.frozen?,h1]
theorem Mx.bm_ring (h:Mx w0 P w B m):m.bm≠m.cg∧m.bm≠m.gg:=by
 obtain ⟨es,cl,h1,_⟩:=h.map
 constructor
 ·intro e
  obtain ⟨a,b,c,d,arr,h2,_⟩:=h.came
  rw [← e,h1] at h2; simp at h2
 ·intro e
  obtain ⟨a,b,c,d,arr,h2,_⟩:=h.goes
  rw [← e,h1] at h2; simp at h2
theorem Mx.img_ring (h:Mx w0 P w B m) {k:Nat} (hk:m.img.ownBlock=Option.some k):k≠m.cg∧k≠m.gg:=by
 rcases h.image.2 with ⟨h1,_⟩ | ⟨g,cap,cur,e1,e2,e3,e4⟩
 ·rw [h1] at hk; cases hk
 ·rw [e1] at hk
  have:g=k:=Option.some.inj hk
  subst this
  constructor
  ·intro e
   obtain ⟨a,b,c,d,arr,h2,_⟩:=h.came
   rw [← e,e3] at h2
   simp only [Option.some.injEq,Obj.cells.injEq] at h2
   exact absurd h2.2.1 (by decide)
  ·intro e
   obtain ⟨a,b,c,d,arr,h2,_⟩:=h.goes
   rw [← e,e3] at h2
   simp only [Option.some.injEq,Obj.cells.injEq] at h2
   exact absurd h2.2.1 (by decide)
theorem Mx.mix (h:Mx w0 P w B m) (ho:w'.os=w.os) (ht:w'.tape=w.tape) (hp:w'.output=w.output) (hs:w.heap.size≤w'.heap.size)
  (hrow:w'.heap[B]?=Option.some (.cells m'.cells 102 (0,0))) (hcame:Slots w' m'.cg m'.rx m'.cf m'.cq) (hgoes:Slots w' m'.gg m'.tx m'.gf m'.gq)
  (e1:m'.bm=m.bm) (e2:m'.cd=m.cd) (e3:m'.cg=m.cg) (e4:m'.gg=m.gg) (e5:m'.img=m.img) (e6:m'.imgL=m.imgL)
  (hb:∀ k,k≠B→k≠m.cg→k≠m.gg→w'.heap[k]?=w.heap[k]?):Mx w0 P w' B m':=by
 have hf:∀ k,Foot B m' k→Foot B m k:=fun k hk=>by
  unfold Foot at hk ⊢
  rw [e1,e3,e4,e5] at hk
  exact hk
 exact
 {os:=ho.trans h.os,tape:=ht.trans h.tape,output:=hp.trans h.output,size:=Nat.le_trans h.size hs
  kept:=fun k hk' hP=>by
   have hn:¬ Foot B m k:=fun hf'=>by
    rcases h.own k hf' with e | e
    ·exact hP e
    ·omega
   exact (hb k (fun e=>hn (Or.inl e)) (fun e=>hn (Or.inr (Or.inr (Or.inl e)))) (fun e=>hn (Or.inr (Or.inr (Or.inr (Or.inl e)))))).trans (h.kept k hk' hP)
  own:=fun k hk=>h.own k (hf k hk)
  low:=h.low,gl:=h.gl,row:=hrow
  map:=by rw [e1,e2]; exact owns_other h.map (hb _ h.ne_bm h.bm_ring.1 h.bm_ring.2)
  came:=hcame,goes:=hgoes
  apart:=by rw [e3,e4]; exact h.apart
  image:=by rw [e5,e6]; exact row_other h.image (fun k hk=>hb k (h.ne_img hk) (h.img_ring hk).1 (h.img_ring hk).2) }
theorem Mx.goNext (h:Mx w0 P w B m) (s:ByteArray) (q:List ByteArray) (hr:m.gq=s::q) (v:Value) :
  Mx w0 P (((w.setCell ⟨m.gg,m.gf,none⟩ v).setCell ⟨B,20,none⟩ (.int .i64 (((m.gf+1) % m.tx:Nat):Int))).setCell ⟨B,21,none⟩ (.int .i64 ((m.gq.length:Int) - 1))) B { m with gf:=(m.gf+1) % m.tx,gq:=q }:=by
 have hb1:(w.setCell ⟨m.gg,m.gf,none⟩ v).heap[B]?=Option.some (.cells m.cells 102 (0,0)):=by rw [Below.heap_setCell _ _ _ _ h.ne_gg.symm]; exact h.row
 have hr2:=row_set _ 21 (.int .i64 ((m.gq.length:Int) - 1)) (row_set _ 20 (.int .i64 (((m.gf+1) % m.tx:Nat):Int)) hb1)
 have hg:Slots (w.setCell ⟨m.gg,m.gf,none⟩ v) m.gg m.tx ((m.gf+1) % m.tx) q:=Slots.next (by rw [← hr]; exact h.goes) v
 refine h.mix rfl rfl rfl (by simp [World.setCell]) ?_ ?_ ?_ rfl rfl rfl rfl rfl rfl (fun k h1 h2 h3=>by rw [Below.heap_setCell _ _ _ _ h1,Below.heap_setCell _ _ _ _ h1,Below.heap_setCell _ _ _ _ h3])
 ·rw [hr2]
  have e:((q.length:Nat):Int)=(m.gq.length:Int) - 1:=by rw [hr]; simp
  unfold Mc.cells
  rw [e]; rfl
 ·exact ((h.came.other (Below.heap_setCell _ _ _ _ h.apart)).other (Below.heap_setCell _ _ _ _ h.ne_cg)).other (Below.heap_setCell _ _ _ _ h.ne_cg)
 ·exact (hg.other (Below.heap_setCell _ _ _ _ h.ne_gg)).other (Below.heap_setCell _ _ _ _ h.ne_gg)
theorem Mx.coAdd (h:Mx w0 P w B m) (s:ByteArray) (hr:m.cq.length<m.rx) :
  Mx w0 P ((w.setCell ⟨m.cg,(m.cf+m.cq.length) % m.rx,none⟩ (.string s)).setCell ⟨B,18,none⟩ (.int .i64 ((m.cq.length:Int)+1))) B { m with cq:=m.cq++[s] }:=by
 have hb1:(w.setCell ⟨m.cg,(m.cf+m.cq.length) % m.rx,none⟩ (.string s)).heap[B]?=Option.some (.cells m.cells 102 (0,0)):=by rw [Below.heap_setCell _ _ _ _ h.ne_cg.symm]; exact h.row
 have hr2:=row_set _ 18 (.int .i64 ((m.cq.length:Int)+1)) hb1
 have hg:=h.came.add s hr
 refine h.mix rfl rfl rfl (by simp [World.setCell]) ?_ ?_ ?_ rfl rfl rfl rfl rfl rfl (fun k h1 h2 h3=>by rw [Below.heap_setCell _ _ _ _ h1,Below.heap_setCell _ _ _ _ h2])
 ·rw [hr2]
  have e:(((m.cq++[s]).length:Nat):Int)=(m.cq.length:Int)+1:=by simp
  unfold Mc.cells
  rw [e]; rfl
 ·exact hg.other (Below.heap_setCell _ _ _ _ h.ne_cg)
 ·exact (h.goes.other (Below.heap_setCell _ _ _ _ h.apart.symm)).other (Below.heap_setCell _ _ _ _ h.ne_gg)
theorem Mx.coNext (h:Mx w0 P w B m) (s:ByteArray) (q:List ByteArray) (hr:m.cq=s::q) (v:Value) :
  Mx w0 P (((w.setCell ⟨m.cg,m.cf,none⟩ v).setCell ⟨B,17,none⟩ (.int .i64 (((m.cf+1) % m.rx:Nat):Int))).setCell ⟨B,18,none⟩ (.int .i64 ((m.cq.length:Int) - 1))) B { m with cf:=(m.cf+1) % m.rx,cq:=q }:=by
 have hb1:(w.setCell ⟨m.cg,m.cf,none⟩ v).heap[B]?=Option.some (.cells m.cells 102 (0,0)):=by rw [Below.heap_setCell _ _ _ _ h.ne_cg.symm]; exact h.row
 have hr2:=row_set _ 18 (.int .i64 ((m.cq.length:Int) - 1)) (row_set _ 17 (.int .i64 (((m.cf+1) % m.rx:Nat):Int)) hb1)
 have hg:Slots (w.setCell ⟨m.cg,m.cf,none⟩ v) m.cg m.rx ((m.cf+1) % m.rx) q:=Slots.next (by rw [← hr]; exact h.came) v
 refine h.mix rfl rfl rfl (by simp [World.setCell]) ?_ ?_ ?_ rfl rfl rfl rfl rfl rfl (fun k h1 h2 h3=>by rw [Below.heap_setCell _ _ _ _ h1,Below.heap_setCell _ _ _ _ h1,Below.heap_setCell _ _ _ _ h2])
 ·rw [hr2]
  have e:((q.length:Nat):Int)=(m.cq.length:Int) - 1:=by rw [hr]; simp
  unfold Mc.cells
  rw [e]; rfl
 ·exact (hg.other (Below.heap_setCell _ _ _ _ h.ne_cg)).other (Below.heap_setCell _ _ _ _ h.ne_cg)
 ·exact ((h.goes.other (Below.heap_setCell _ _ _ _ h.apart.symm)).other (Below.heap_setCell _ _ _ _ h.ne_gg)).other (Below.heap_setCell _ _ _ _ h.ne_gg)
theorem coAdd_any (h:Mx w0 P w B m) (s:ByteArray):Calls Tryz.prog 51 #[.pointer (Option.some ⟨B,16,none⟩),.string s] w fun e w' =>
  e=.returned (.bool (decide (m.cq.length<m.rx)))∧Mx w0 P w' B (if m.cq.length<m.rx then { m with cq:=m.cq++[s] } else m):=by
 have hl:m.cq.length≤m.rx:=h.came.2.2.2.1
 by_cases hr:m.cq.length<m.rx
 ·have hm:=Nat.mod_lt (m.cf+m.cq.length) h.came.1
  obtain ⟨v0,q0⟩:=h.came.some _ hm
  refine (add_room B 16 m.cg m.rx m.cf m.cq.length s v0 w h.c16 h.c17 h.c18 hr h.came.2.2.1 h.came.2.1 h.ne_cg q0 (h.came.free _) (h.free _)).mono ?_
  rintro e w1 ⟨rfl,hk⟩
  rw [if_pos hr]
  exact ⟨by simp [hr],(h.coAdd s hr).like hk⟩
 ·have e:m.cq.length=m.rx:=by omega
  have c18:=h.c18
  rw [e] at c18
  refine (add_full B 16 m.cg m.rx m.cf s w h.c16 h.c17 c18).mono ?_
  rintro e w1 ⟨rfl,hk⟩
  rw [if_neg hr]
  exact ⟨by simp [hr],h.like hk⟩
def Mc.goes1 (m:Mc):Mc:=match m.gq with | []=>m | _::q=>{ m with gf:=(m.gf+1) % m.tx,gq:=q }
def Mc.came1 (m:Mc):Mc:=match m.cq with | []=>m | _::q=>{ m with cf:=(m.cf+1) % m.rx,cq:=q }
def headS (q:List ByteArray):ByteArray:=match q with | []=>⟨#[]⟩ | s::_=>s
theorem goNext_any (h:Mx w0 P w B m):Calls Tryz.prog 52 #[.pointer (Option.some ⟨B,19,none⟩)] w fun e w' =>
  e=.returned (.tuple #[.string (headS m.gq),.bool (!m.gq.isEmpty)])∧Mx w0 P w' B m.goes1:=by
 cases hq:m.gq with
 | nil =>
  have c21:=h.c21
  rw [hq] at c21
  refine (next_none B 19 w c21).mono ?_
  rintro e w1 ⟨rfl,rfl⟩
  exact ⟨by simp [headS],by unfold Mc.goes1; rw [hq]; exact h⟩
 | cons s q =>
  have hl:m.gq.length≤m.tx:=h.goes.2.2.2.1
  have hg:Slots w m.gg m.tx m.gf (s::q):=by rw [← hq]; exact h.goes
  refine (next_one B 19 m.gg m.tx m.gf m.gq.length s w h.c19 h.c20 h.c21 (by rw [hq]; simp) hl h.goes.2.2.1 h.goes.2.1 h.ne_gg hg.first (h.goes.free _) (h.free _) (h.free _)).mono ?_
  rintro e w1 ⟨rfl,hk⟩
  refine ⟨by simp [headS],?_⟩
  unfold Mc.goes1
  rw [hq]
  exact (h.goNext s q hq _).like hk
theorem coNext_any (h:Mx w0 P w B m):Calls Tryz.prog 52 #[.pointer (Option.some ⟨B,16,none⟩)] w fun e w' =>
  e=.returned (.tuple #[.string (headS m.cq),.bool (!m.cq.isEmpty)])∧Mx w0 P w' B m.came1:=by
 cases hq:m.cq with
 | nil =>
  have c18:=h.c18
  rw [hq] at c18
  refine (next_none B 16 w c18).mono ?_
  rintro e w1 ⟨rfl,rfl⟩
  exact ⟨by simp [headS],by unfold Mc.came1; rw [hq]; exact h⟩
 | cons s q =>
  have hl:m.cq.length≤m.rx:=h.came.2.2.2.1
  have hg:Slots w m.cg m.rx m.cf (s::q):=by rw [← hq]; exact h.came
  refine (next_one B 16 m.cg m.rx m.cf m.cq.length s w h.c16 h.c17 h.c18 (by rw [hq]; simp) hl h.came.2.2.1 h.came.2.1 h.ne_cg hg.first (h.came.free _) (h.free _) (h.free _)).mono ?_
  rintro e w1 ⟨rfl,hk⟩
  refine ⟨by simp [headS],?_⟩
  unfold Mc.came1
  rw [hq]
  exact (h.coNext s q hq _).like hk
end Go.Proofs.YtbhbbeebncmaiaaGreatDoor.Mac
namespace Go.Proofs.YtbhbbeebncmaiaaGreatDoor.Mac
open Go.ChangeShapes Go.WideShapes Go.ChangeAt Go.RowKit Bs
set_option linter.unusedVariables false
set_option linter.unusedSimpArgs false
variable {w0 : World} {P : Nat → Prop} {w w' : World} {B : Nat} {m m' : Mc}
def Mc.addr (m:Mc):Int:=if m.st<4 then 0 else m.adr
theorem address_any (h:Mx w0 P w B m):Calls Tryz.prog 74 #[.pointer (some ⟨B,0,none⟩)] w fun e w'=>e=.returned (.int .u32 m.addr)∧w'=w:=by
 have c25:=h.c25
 have c27:=h.c27
 by_cases hs:m.st<4
 ·have e:m.addr=0:=by unfold Mc.addr; rw [if_pos hs]
  rw [e]
  go_enter Tryz.func74,Tryz.ntmps74
  go_wp2
  go_ret
  exact ⟨rfl,rfl⟩
 ·have e:m.addr=m.adr:=by unfold Mc.addr; rw [if_neg hs]
  rw [e]
  clear e
  go_enter Tryz.func74,Tryz.ntmps74
  go_wp2
  go_ret
  exact ⟨rfl,rfl⟩
def Mc.ended (m:Mc):Bool:=m.phase==3 || m.phase==4
theorem ended_any (h:Mx w0 P w B m):Calls Tryz.prog 53 #[.pointer (some ⟨B,0,none⟩)] w fun e w'=>e=.returned (.bool m.ended)∧w'=w:=by
 have c40:=h.c40
 unfold Mc.ended
 go_enter Tryz.func53,Tryz.ntmps53
 go_wp2
 all_goals
  go_ret
  simp_all
theorem second_new (w:World) (o1 o2:Obj):((w.alloc o1).alloc o2).heap[w.heap.size+1]?=some o2:=by
 have:=heap_alloc_new (w.alloc o1) o2
 simpa using this
end Go.Proofs.YtbhbbeebncmaiaaGreatDoor.Mac
