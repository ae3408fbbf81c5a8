import Derived.Test.YtbhbbeebncmaiaaGreatDoorMg26
set_option linter.all false
set_option maxHeartbeats 8000000
set_option maxRecDepth 10000
open Go.ChangeShapes Go.WideShapes Go.ChangeAt Go.RowKit
open Go renaming World → fV, Calls → f_
open Go.Value renaming int → Vb
open Go.IntKind renaming u8 → Vd, u16 → Ve, u32 → Vf, i64 → Vg
open Go.Proofs.Tryz
namespace Go.Proofs.YtbhbbeebncmaiaaGreatDoor
namespace Ref
open Bs Js
open Dh (gU gT jM kr iV ib lM heavy)
variable{w0:fV} {P:Nat→Prop} {w w':fV} {G:Nat} {r r':Rf}
structure qi (w0:fV) (P:Nat->Prop) (G:Nat) (r:Rf) (u:fV) (b:Nat) (v:Value) (L:gU):Prop where
 rm:Rm w0 P u G r
 row:u.heap[b]?=some (.cells #[.bool false,Vb Vf r.gF,Vb Vf 0,Vb Vf 0,Vb Vf 0,Vb Vd r.k0.toNat,Vb Vd r.k1.toNat,Vb Vd r.k2.toNat,Vb Vd r.k3.toNat,Vb Vd r.k4.toNat,Vb Vd r.k5.toNat,v] 127 (0,0))
 own:u.ownsRow 0 151 2 v L.length (gT L)
 nf: ¬iT G r b
 new:w0.heap.size<=b
 vb:∀k,v.ownBlock=some k->k≠b/\ ¬iT G r k/\w0.heap.size<=k
theorem qi.lt{u:fV}{b:Nat}{v:Value}{L:gU}(h:qi w0 P G r u b v L):b<u.heap.size:=Vj h.row
theorem qi.alloc{u:fV}{b:Nat}{v:Value}{L:gU}(h:qi w0 P G r u b v L)(o:Obj):qi w0 P G r (u.alloc o) b v L:=
 ⟨h.rm.alloc o,(Vi u o b h.lt).trans h.row,h.own.alloc o,h.nf,h.new,h.vb⟩
theorem qi.cell{u:fV}{b:Nat}{v:Value}{L:gU}(h:qi w0 P G r u b v L):u.cell? (a_ b 11)=some v/\u.frozen? (a_ b 11)=false:=
 ⟨HY u b 11 _ _ _ h.row,by simp[World.frozen?,h.row]⟩
theorem qi.grown{u u':fV}{b:Nat}{v v':Value}{L L2:gU}(h:qi w0 P G r u b v L)(hown:u'.ownsRow 0 151 2 v' (L.length+L2.length) (gT L++gT L2))(hg:u.grownBy u' v.ownBlock)
  (hf:v'.ownBlock=v.ownBlock∨∃g,v'.ownBlock=some g/\u.heap.size<=g):qi w0 P G r (u'.setCell (a_ b 11) v') b v' (L++L2):=by
 have hb':u'.heap[b]?=some (.cells #[.bool false,Vb Vf r.gF,Vb Vf 0,Vb Vf 0,Vb Vf 0,Vb Vd r.k0.toNat,Vb Vd r.k1.toNat,Vb Vd r.k2.toNat,Vb Vd r.k3.toNat,Vb Vd r.k4.toNat,Vb Vd r.k5.toNat,v] 127 (0,0)):=(hg.block b h.lt (fun e=>(h.vb b e.symm).1 rfl)).trans h.row
 have hrm:Rm w0 P u' G r:=h.rm.turn hg.os hg.tape hg.output hg.size (fun k hk hc=>hg.block k hk (by
  intro e
  obtain⟨q1,q2,q3⟩:=h.vb k e.symm
  rcases hc with hc|⟨_,hc⟩
  ·exact q2 hc
  ·omega))
 have hvb:∀k,v'.ownBlock=some k->k≠b/\ ¬iT G r k/\w0.heap.size<=k:=fun k hk=>by
  rcases hf with e|⟨g,e,hge⟩
  ·exact h.vb k (by rw[<-e];exact hk)
  ·rw[e]at hk
   injection hk with hk
   have h1:=h.lt
   have h2:=h.rm.size
   refine⟨by omega,fun hq=> ?_,by omega⟩
   have:=h.rm.ik hq
   omega
 refine⟨hrm.aside (a_ b 11) _ h.nf h.new,?_,?_,h.nf,h.new,hvb⟩
 ·rw[VD u' b 11 _ _ _ _ hb',VB u' b _ _ _ _ hb'];rfl
 ·rw[ak,iV]
  exact iN hown (fun k hk=>R8 _ _ _ _ (hvb k hk).1)
theorem qi.start{wc:fV}{b g:Nat}{kb:UInt8}(h:LB w0 P G r kb wc b g):qi w0 P G r wc b (.slice (some (a_ g 0)) 1 1) [(53,[kb])]:=by
 obtain⟨hM,hrow,hopt,hnb,hng,hwb,hwg,hbg,hbl,hgl⟩:=h
 refine⟨hM,hrow,⟨rfl,aA ⟨g,1,#[Vb Vd 53,.string ⟨#[kb]⟩],rfl,aN _,hopt,ai _,by decide,rfl,rfl⟩⟩,hnb,hwb,fun k hk=> ?_⟩
 have e:g=k:=by simpa[Value.ownBlock]using hk
 subst e
 exact⟨fun q=>hbg q.symm,hng,hwg⟩
theorem BZ(w:fV)(o1:Obj)(c:Array Value)(t:TypeId)(j:Nat):((w.alloc o1).alloc (.cells c t)).cell? (a_ (w.heap.size+1) j)=c[j]?:=HY _ _ j _ _ _ (jq w o1 _)
theorem BP{u:fV}{la:Nat}{a b c d:Value}{t:TypeId}(h:u.heap[la]?=some (.cells #[a,b,c,d] t (0,0))):u.cell? (a_ la 0)=some a/\u.cell? (a_ la 1)=some b/\u.cell? (a_ la 2)=some c/\u.cell? (a_ la 3)=some d:=by
 have q:=fun j=>HY u la j _ _ _ h
 exact⟨q 0,q 1,q 2,q 3⟩
theorem Jw(h:Rm w0 P w G r)(hl:r.gK<4)(kb:UInt8)(bb:Bool)(hbb:((kb.toNat:Int)!=4)=bb)(hx:0<=r.gF/\r.gF<=4294967295)(htx:r.tx<=16)(htl:r.tl.length<=r.tx)
  (lv:Value) (os:gU) (hOP:(lv=.slice none 0 0/\os=[]/\bb=true)∨∃la f1 f2,∃d1 d2:List UInt8,lv=.slice (some (a_ la 0)) 2 2/\os=[(f1,d1),(f2,d2)]/\w.heap[la]?=some (.cells (rC f1.toNat ⟨d1.toArray⟩ f2.toNat ⟨d2.toArray⟩) 151 (0,0))/\la<w0.heap.size/\ ¬P la/\d1.length<=100/\d2.length<=100):
  f_ prog 62 #[p_ G,Vb Vd kb.toNat,.bool false,lv] w fun ee w'=>ee=.returned (.tuple #[])/\∃v,Rm w0 P w' G (r.jV kb os v):=by
 obtain⟨i1,hj,hy0,hy1,hy2⟩:=Vx lM
 obtain⟨S,hS⟩:∃S,S=r.Fy kb os:=⟨_,rfl⟩
 have HSS:=gu hS
 have HSZ:Hid (S.size<=1472):=gu (by rw[hS];exact wI _ _ _ _ _ _ _)
 have HP:Hid (∀u,Rm w0 P u G r->f_ prog 95 #[p_ G,Vb Vf 4294967295,Vb Vg 68,Vb Vg 67,.string S] u fun ee w'=>ee=.returned (.string (r.lD S))/\Rm w0 P w' G {r with id:=wrap64 (r.id+1)}):=gu (fun u hu=>IV hu hl _ HSZ)
 have HS:Hid (∀u,Rm w0 P u G {r with id:=wrap64 (r.id+1)}->f_ prog 90 #[p_ G,.agg (rS 255 255 255 255 255 255),Vb Ve 2048,.string (r.lD S)] u fun ee w'=>ee=.returned (.tuple #[])/\∃v,Rm w0 P w' G (r.jV kb os v)):=gu (fun u hu=>by rw[hS];exact Mt hu _ (vC _ _) htx htl)
 have HA:Hid (∀u,Rm w0 P u G r->f_ prog 46 #[p_ G] u fun ee w'=>ee=.returned (Vb Vf 0)/\w'=u):=gu (fun u hu=>jW hu hl)
 have HX:=gu hx
 have HOP:=gu hOP
 have HM0:=gu h
 clear htx htl hx hS hOP
 have HM:=gu h
 have c23:=h.c23
 have c1:=h.c1
 have c2:=h.c2
 have c3:=h.c3
 have c4:=h.c4
 have c5:=h.c5
 have c6:=h.c6
 have HK:Hid (∀u,Below w.heap.size w u->u.cell? (a_ G 23)=some (Vb Vf r.gF)/\u.cell? (a_ G 1)=some (Vb Vd r.k0.toNat)/\u.cell? (a_ G 2)=some (Vb Vd r.k1.toNat)/\u.cell? (a_ G 3)=some (Vb Vd r.k2.toNat)/\u.cell? (a_ G 4)=some (Vb Vd r.k3.toNat)/\u.cell? (a_ G 5)=some (Vb Vd r.k4.toNat)/\u.cell? (a_ G 6)=some (Vb Vd r.k5.toNat)):=gu (fun u hb=>⟨(h.below hb).c23,(h.below hb).c1,(h.below hb).c2,(h.below hb).c3,(h.below hb).c4,(h.below hb).c5,(h.below hb).c6⟩)
 have hlt:=h.lt
 have hcv:=fun(u:fV) (g:Nat) (h:u.cell? (a_ g 0)=some (Vb Vd kb.toNat))=>Td u g kb h
 clear h
 go_enter func62,ntmps62
 go_wp2
 go_cut [8] (fun s8 wc=>∃b g,s8=(p_ b)/\Hid (LB w0 P G r kb wc b g))
 case first=>
  clear HP HS HX HSZ hj hy0 hy1 hy2 c23 c1 c2 c3 c4 c5 c6 HOP HM0
  refine wp_region_held_drew (S:=fun u=>u.cell? (a_ G 23)=some (Vb Vf r.gF)/\u.cell? (a_ G 1)=some (Vb Vd r.k0.toNat)/\u.cell? (a_ G 2)=some (Vb Vd r.k1.toNat)/\u.cell? (a_ G 3)=some (Vb Vd r.k2.toNat)/\u.cell? (a_ G 4)=some (Vb Vd r.k3.toNat)/\u.cell? (a_ G 5)=some (Vb Vd r.k4.toNat)/\u.cell? (a_ G 6)=some (Vb Vd r.k5.toNat)) (by kernel_rfl) (HK _ ((R9 _ _).drew)) (fun hHeld=> ?_)
  refine tkH_ (i:=0) (v:=(p_ G)) rfl (by kernel_rfl) (fun _ _ _ h=>h) (au ⟨by rfl,?_⟩) hHeld ?_
  ·(intro wz hSz;(try dsimp only at hSz);go_simp)
  try simp only[Act.put,ae,ah,af]
  refine tkH_ (i:=1) (v:=(p_ G)) rfl (by kernel_rfl) (fun _ _ _ h=>h) (au ⟨by rfl,?_⟩) hHeld ?_
  ·(intro wz hSz;(try dsimp only at hSz);go_simp)
  try simp only[Act.put,ae,ah,af]
  refine Vo (i:=2) (v:=(.pointer (some (a_ G 23)))) rfl (by kernel_rfl) (by kernel_rfl) (by kernel_rfl) (fun _ _ _ h=>h) (au ⟨by rfl,?_⟩) hHeld ?_
  ·(intro wz hSz;(try dsimp only at hSz);go_simp)
  try simp only[Act.put,ae,ah,af]
  refine tkH_ (i:=3) (v:=(Vb Vf r.gF)) rfl (by kernel_rfl) (fun _ _ _ h=>h) (au ⟨by rfl,?_⟩) hHeld ?_
  ·(intro wz hSz;(try dsimp only at hSz);go_simp)
  try simp only[Act.put,ae,ah,af]
  refine tkH_ (i:=4) (v:=(p_ G)) rfl (by kernel_rfl) (fun _ _ _ h=>h) (au ⟨by rfl,?_⟩) hHeld ?_
  ·(intro wz hSz;(try dsimp only at hSz);go_simp)
  try simp only[Act.put,ae,ah,af]
  refine tkH_ (i:=6) (v:=(p_ G)) rfl (by kernel_rfl) (fun _ _ _ h=>h) (au ⟨by rfl,?_⟩) hHeld ?_
  ·(intro wz hSz;(try dsimp only at hSz);go_simp)
  try simp only[Act.put,ae,ah,af]
  refine tkH_ (i:=7) (v:=(p_ G)) rfl (by kernel_rfl) (fun _ _ _ h=>h) (au ⟨by rfl,?_⟩) hHeld ?_
  ·(intro wz hSz;(try dsimp only at hSz);go_simp)
  try simp only[Act.put,ae,ah,af]
  refine Vo (i:=8) (v:=(.pointer (some (a_ G 1)))) rfl (by kernel_rfl) (by kernel_rfl) (by kernel_rfl) (fun _ _ _ h=>h) (au ⟨by rfl,?_⟩) hHeld ?_
  ·(intro wz hSz;(try dsimp only at hSz);go_simp)
  try simp only[Act.put,ae,ah,af]
  refine Vo (i:=9) (v:=(.pointer (some (a_ G 1)))) rfl (by kernel_rfl) (by kernel_rfl) (by kernel_rfl) (fun _ _ _ h=>h) (au ⟨by rfl,?_⟩) hHeld ?_
  ·(intro wz hSz;(try dsimp only at hSz);go_simp)
  try simp only[Act.put,ae,ah,af]
  refine Vo (i:=10) (v:=(.agg (rS r.k0.toNat r.k1.toNat r.k2.toNat r.k3.toNat r.k4.toNat r.k5.toNat))) rfl (by kernel_rfl) (by kernel_rfl) (by kernel_rfl) (fun _ _ _ h=>h) (au ⟨by rfl,?_⟩) hHeld ?_
  ·(intro wz hSz;(try dsimp only at hSz);go_simp)
  try simp only[Act.put,ae,ah,af]
  refine tkH_ (i:=11) (v:=(Vb Vd kb.toNat)) rfl (by kernel_rfl) (fun _ _ _ h=>h) (au ⟨by rfl,?_⟩) hHeld ?_
  ·(intro wz hSz;(try dsimp only at hSz);go_simp)
  try simp only[Act.put,ae,ah,af]
  iterate 10 all_goals try first
   |(refine VG (by decide+kernel) ?_ _
     go_wp2
     go_meet
     first|exact⟨_,_,rfl,gu (QY HM kb _ rfl)⟩|exact⟨_,_,rfl,gu (Rc HM kb _ rfl)⟩|exact⟨_,_,rfl,gu (Rp HM kb _ rfl)⟩)
   |(refine Vo (i:=14) (v:=(.agg #[Vb Vd 53,.string ⟨#[kb]⟩])) rfl (by kernel_rfl) (by kernel_rfl) (by decide+kernel) (fun _ _ _ h=>h) (au ⟨by rfl,?_⟩) hHeld ?_
     ·(intro wz hSz;(try dsimp only at hSz);go_simp)
     try simp only[Act.put,ae,ah,af])
   |(refine Vo (i:=16) (v:=(.agg (rD false r.gF 0 0 0 r.k0.toNat r.k1.toNat r.k2.toNat r.k3.toNat r.k4.toNat r.k5.toNat (some (a_ (w.heap.size+1) 0)) 1 1))) rfl (by kernel_rfl) (by kernel_rfl) (by decide+kernel) (fun _ _ _ h=>h) (au ⟨by rfl,?_⟩) hHeld ?_
     ·(intro wz hSz;(try dsimp only at hSz);go_simp)
     try simp only[Act.put,ae,ah,af])
   |(refine Vo (i:=16) (v:=(.agg (rD false r.gF 0 0 0 r.k0.toNat r.k1.toNat r.k2.toNat r.k3.toNat r.k4.toNat r.k5.toNat (some (a_ (w.heap.size+1+1) 0)) 1 1))) rfl (by kernel_rfl) (by kernel_rfl) (by decide+kernel) (fun _ _ _ h=>h) (au ⟨by rfl,?_⟩) hHeld ?_
     ·(intro wz hSz;(try dsimp only at hSz);go_simp)
     try simp only[Act.put,ae,ah,af])
   |((first|refine wpAnyH_ready (rs:=[12]) (by decide+kernel) (by simp) ?_|refine wpAnyH_ready (rs:=[18]) (by decide+kernel) (by simp) ?_|refine wpAnyH_ready (rs:=[15]) (by decide+kernel) (by simp) ?_|refine wpAnyH_ready (rs:=[5]) (by decide+kernel) (by simp) ?_|refine wpAnyH_ready (rs:=[17]) (by decide+kernel) (by simp) ?_|refine wpAnyH_ready (rs:=[13]) (by decide+kernel) (by simp) ?_|refine wpAnyH_ready (rs:=[12,17]) (by decide+kernel) (by simp) ?_|refine wpAnyH_ready (rs:=[13,17]) (by decide+kernel) (by simp) ?_|refine wpAnyH_ready (rs:=[5,15]) (by decide+kernel) (by simp) ?_|refine wpAnyH_ready (rs:=[15,17]) (by decide+kernel) (by simp) ?_|refine wpAnyH_ready (rs:=[5,17]) (by decide+kernel) (by simp) ?_|refine wpAnyH_ready (rs:=[5,13]) (by decide+kernel) (by simp) ?_|refine wpAnyH_ready (rs:=[5,12]) (by decide+kernel) (by simp) ?_|refine wpAnyH_ready (rs:=[5,13,17]) (by decide+kernel) (by simp) ?_|refine wpAnyH_ready (rs:=[5,12,17]) (by decide+kernel) (by simp) ?_|refine wpAnyH_ready (rs:=[5,15,17]) (by decide+kernel) (by simp) ?_)
     first|refine AllReadyH.cons rfl (fun K hK=> ?_) AllReadyH.nil|refine AllReadyH.cons rfl (fun K hK=> ?_) (AllReadyH.cons rfl (fun K hK=> ?_) AllReadyH.nil)|refine AllReadyH.cons rfl (fun K hK=> ?_) (AllReadyH.cons rfl (fun K hK=> ?_) (AllReadyH.cons rfl (fun K hK=> ?_) AllReadyH.nil))
     all_goals go_simp
     all_goals try (refine bE (HA _ (HM.below (by(repeat (first|exact R9 _ _|(refine VH ?_)|(refine VL ?_ (by first|(simp;done)|(simp;omega)) _)))))) ?_;rintro ee u2 ⟨rfl,rfl⟩;go_wp2_with fail)
     all_goals clear hHeld
     all_goals
      refine hK.out _ _ ?_ (fun hHeld=> ?_)
      ·exact HK _ (by(repeat (first|exact R9 _ _|(refine VH ?_)|(refine VL ?_ (by first|(simp;done)|(simp;omega)) _))))
      clear hK K
      try simp only[Act.put,ae,ah,af])
 case rest=>
  rename fV=>wc0
  obtain⟨b,g,rfl,HSP⟩:=hcut
  have HQ0:=gu (qi.start HSP)
  clear HSP HM HK HA hcv c23 c1 c2 c3 c4 c5 c6 hlt HSZ
  rcases gB HOP with⟨e1,e2,e3⟩|⟨la,f1,f2,d1,d2,e1,e2,hla,hlw,hlP,hd⟩
  ·subst e1
   subst e2
   subst e3
   clear HM0 HOP
   have HEQ:Hid (kY kb []=[(53,[kb]),(55,jH)]):=gu (by
    have: ¬kb=4:=fun e=>by rw[e]at hbb;exact absurd hbb (by decide)
    unfold kY;rw[ax this];rfl)
   go_wp2
   refine Vz 1 ?_
   rw[Vs]
   obtain⟨z11,g11⟩:=HQ0.cell
   have hb2:=HQ0.lt
   go_wp2_with (at_builtin;refine h_ rfl (.tmp 46) (.tmp 48) 125 rfl 0 151 i1 (.agg #[Vb Vd 0,.string ⟨#[]⟩]) 2 24 bW hj hy0 hy1 hy2 rfl (by decide) _ _ _ rfl (HQ0.alloc (.cells #[Vb Vd 55,.string ⟨#[1,3,51,54,58,59]⟩] 151)).own (a_ wc0.heap.size 0) 1 1 (gT [(55,jH)]) rfl rfl ?hcel (jM _) ?h63 ?hby ?hba ?_)
   case hcel=>intro j u hj;first|exact hj|skip;rw[jB,mf,show(#[Vb Vd 55,.string ⟨#[1,3,51,54,58,59]⟩]:Array Value)=(gT [(55,jH)]).toArray from rfl,bC];exact hj
   case h63=>exact(show 2<=maxLen by unfold maxLen;omega)
   try (case hby=>exact(show 2*24<=140737488355328 by decide))
   try (case hba=>exact aN _)
   intro v3 u3 hown hg hf
   have HQ3:=gu (qi.grown (L2:=[(55,jH)]) (HQ0.alloc (.cells #[Vb Vd 55,.string ⟨#[1,3,51,54,58,59]⟩] 151)) hown hg (by
    rcases hf with q|⟨gg,q1,q2⟩
    ·exact au q
    ·exact aA ⟨gg,q1,by simp;omega⟩))
   have HU3:=gu ((hg.block b (HQ0.alloc (.cells #[Vb Vd 55,.string ⟨#[1,3,51,54,58,59]⟩] 151)).lt (fun e=>((HQ0.alloc (.cells #[Vb Vd 55,.string ⟨#[1,3,51,54,58,59]⟩] 151)).vb b e.symm).1 rfl)).trans (HQ0.alloc (.cells #[Vb Vd 55,.string ⟨#[1,3,51,54,58,59]⟩] 151)).row)
   have f11:u3.frozen? (a_ b 11)=false:=by simp[World.frozen?,gB HU3]
   have x11:u3.cell? (a_ b 11)=some (.slice (some (a_ g 0)) 1 1):=HY u3 b 11 _ _ _ HU3
   clear hown hg hf HQ0 z11 g11 hb2
   obtain⟨LO,hLO⟩:∃LO,LO=kY kb []:=⟨_,rfl⟩
   have HQ:Hid (qi w0 P G r (u3.setCell (a_ b 11) v3) b v3 LO):=gu (by
    have q:=gB HQ3
    have e:LO=[(53,[kb]),(55,jH)]:=by rw[hLO,gB HEQ]
    rw[e];exact q)
   obtain⟨a4,c4,hv4⟩:=ib HQ.own
   subst hv4
   have hhv:heavy LO<=2000:=by
     rw[hLO,gB HEQ];simp[heavy,jH]
   have HSB:Hid (S=Dh.nH false r.gF 0 0 0 [r.k0,r.k1,r.k2,r.k3,r.k4,r.k5] LO):=gu (by rw[hLO];exact HSS)
   have HAT:Hid (Dh.At (u3.setCell (a_ b 11) (.slice a4 LO.length c4)) a4 LO):=gu (xw HQ.own)
   have hrow:=gB HU3
   have x0:u3.cell? (a_ b 0)=some (.bool false):=HY u3 b 0 _ _ _ hrow
   have x1:u3.cell? (a_ b 1)=some (Vb Vf r.gF):=HY u3 b 1 _ _ _ hrow
   have x2:u3.cell? (a_ b 2)=some (Vb Vf 0):=HY u3 b 2 _ _ _ hrow
   have x3:u3.cell? (a_ b 3)=some (Vb Vf 0):=HY u3 b 3 _ _ _ hrow
   have x4:u3.cell? (a_ b 4)=some (Vb Vf 0):=HY u3 b 4 _ _ _ hrow
   have x5:u3.cell? (a_ b 5)=some (Vb Vd r.k0.toNat):=HY u3 b 5 _ _ _ hrow
   have x6:u3.cell? (a_ b 6)=some (Vb Vd r.k1.toNat):=HY u3 b 6 _ _ _ hrow
   have x7:u3.cell? (a_ b 7)=some (Vb Vd r.k2.toNat):=HY u3 b 7 _ _ _ hrow
   have x8:u3.cell? (a_ b 8)=some (Vb Vd r.k3.toNat):=HY u3 b 8 _ _ _ hrow
   have x9:u3.cell? (a_ b 9)=some (Vb Vd r.k4.toNat):=HY u3 b 9 _ _ _ hrow
   have x10:u3.cell? (a_ b 10)=some (Vb Vd r.k5.toNat):=HY u3 b 10 _ _ _ hrow
   have x11:u3.cell? (a_ b 11)=some (.slice (some (a_ g 0)) 1 1):=HY u3 b 11 _ _ _ hrow
   have H5:=gu HQ.rm
   clear hLO hrow HQ HQ3 HEQ HU3 HSS
   go_wp2_with fail
   refine(Dh.kz false r.gF 0 0 0 r.k0 r.k1 r.k2 r.k3 r.k4 r.k5 a4 c4 LO _ HX (by omega) (by omega) (by omega) HAT (by omega)).mono ?_
   rintro ee u5 ⟨rfl,hb5⟩
   have H6:=gu (H5.below hb5)
   clear hb5 H5 HAT x0 x1 x2 x3 x4 x5 x6 x7 x8 x9 x10 x11 hhv
   rw[<-gB HSB]
   clear HSB
   obtain⟨g0,g1,g2,g3,g4,g5⟩:=H6.kL
   go_wp2
   go_region_held3 (fun u=>u.cell? (a_ 0 0)=some (Vb Vd 255)/\u.cell? (a_ 0 1)=some (Vb Vd 255)/\u.cell? (a_ 0 2)=some (Vb Vd 255)/\u.cell? (a_ 0 3)=some (Vb Vd 255)/\u.cell? (a_ 0 4)=some (Vb Vd 255)/\u.cell? (a_ 0 5)=some (Vb Vd 255)) (go_keep)
    (first|(go_at_call 95;refine(HP _ H6.drew).mono ?_;rintro ee u6 ⟨rfl,h7⟩;have H7:=gu h7;obtain⟨y0,y1,y2,y3,y4,y5⟩:=h7.kL;clear h7)|(go_at_call 90;refine(HS _ (by first|exact gB H7|exact H7.drew)).mono ?_;rintro ee u7 ⟨rfl,v7,h8⟩;have H8:=gu h8;obtain⟨z0,z1,z2,z3,z4,z5⟩:=h8.kL;clear h8))
   all_goals
    go_wp2
    go_end0
    exact⟨rfl,_,H8⟩
  ·subst e1
   subst e2
   clear HOP
   have HEQ:Hid (kY kb [(f1,d1),(f2,d2)]=if bb then [(53,[kb]),(f1,d1),(f2,d2),(55,jH)]else [(53,[kb]),(f1,d1),(f2,d2)]):=gu (by
    unfold kY
    cases bb with
    |true=>
     have: ¬kb=4:=fun e=>by rw[e]at hbb;exact absurd hbb (by decide)
     rw[ax this];rfl
    |false=>
     have e:kb=4:=by
      have h4:(kb.toNat:Int)=4:=by simpa using hbb
      have h5:kb.toNat=(4:UInt8).toNat:=by show kb.toNat=4;omega
      exact dD.1 h5
     rw[ay e];rfl)
   have HD:=gu hd
   have HLA:Hid (∀u,Rm w0 P u G r->u.heap[la]?=some (.cells (rC f1.toNat ⟨d1.toArray⟩ f2.toNat ⟨d2.toArray⟩) 151 (0,0))):=gu (fun u hu=>(hu.kept la hlw hlP).trans ((HM0.kept la hlw hlP).symm.trans hla))
   clear hd hla hlw hlP HM0
   go_wp2
   refine Vz 3 ?_
   rw[Vs]
   obtain⟨z11,g11⟩:=HQ0.cell
   obtain⟨y0,y1,y2,y3⟩:=BP (HLA _ HQ0.rm)
   have hl0:=Vj (HLA _ HQ0.rm)
   have hb0:=HQ0.lt
   go_wp2_with (at_builtin;refine h_ rfl (.tmp 37) (.tmp 39) 125 rfl 0 151 i1 (.agg #[Vb Vd 0,.string ⟨#[]⟩]) 2 24 bW hj hy0 hy1 hy2 rfl (by decide) _ _ _ rfl ((HQ0.alloc (.cells #[Vb Vd f1.toNat,.string ⟨d1.toArray⟩] 151)).alloc (.cells #[Vb Vd f1.toNat,.string ⟨d1.toArray⟩] 151)).own (a_ (wc0.heap.size+1) 0) 1 1 (gT [(f1,d1)]) rfl rfl ?hcel (jM _) ?h63 ?hby ?hba ?_)
   case hcel=>intro j u hj;first|exact hj|skip;rw[jB,BZ,show(#[Vb Vd f1.toNat,.string ⟨d1.toArray⟩]:Array Value)=(gT [(f1,d1)]).toArray from rfl,bC];exact hj
   case h63=>exact(show 2<=maxLen by unfold maxLen;omega)
   case hby=>exact(show 2*24<=140737488355328 by decide)
   case hba=>exact aN _
   intro v1 u1 hown hg hf
   obtain⟨p1,q1,hv1⟩:∃a c,v1=.slice a 2 c:=by obtain⟨a,c,e⟩:=jK hown;exact⟨a,c,e⟩
   subst hv1
   have HQ1:=gu (qi.grown (L2:=[(f1,d1)]) ((HQ0.alloc (.cells #[Vb Vd f1.toNat,.string ⟨d1.toArray⟩] 151)).alloc (.cells #[Vb Vd f1.toNat,.string ⟨d1.toArray⟩] 151)) hown hg (by
    rcases hf with q|⟨gg,q1,q2⟩
    ·exact au q
    ·exact aA ⟨gg,q1,by simp;omega⟩))
   obtain⟨wc1,hwc1⟩:∃x,x=u1.setCell (a_ b 11) (.slice p1 2 q1):=⟨_,rfl⟩
   have HU1:=gu ((hg.block b ((HQ0.alloc (.cells #[Vb Vd f1.toNat,.string ⟨d1.toArray⟩] 151)).alloc (.cells #[Vb Vd f1.toNat,.string ⟨d1.toArray⟩] 151)).lt (fun e=>(((HQ0.alloc (.cells #[Vb Vd f1.toNat,.string ⟨d1.toArray⟩] 151)).alloc (.cells #[Vb Vd f1.toNat,.string ⟨d1.toArray⟩] 151)).vb b e.symm).1 rfl)).trans ((HQ0.alloc (.cells #[Vb Vd f1.toNat,.string ⟨d1.toArray⟩] 151)).alloc (.cells #[Vb Vd f1.toNat,.string ⟨d1.toArray⟩] 151)).row)
   have f11:u1.frozen? (a_ b 11)=false:=by simp[World.frozen?,gB HU1]
   have x11:u1.cell? (a_ b 11)=some (.slice (some (a_ g 0)) 1 1):=HY u1 b 11 _ _ _ HU1
   rw[<-hwc1]at HQ1
   have HW1:=gu hwc1
   clear hwc1
   clear hown hg hf HQ0 z11 g11 hb0 y0 y1 y2 y3 hl0
   go_wp2
   rw[<-gB HW1]
   clear HW1 f11 x11 HU1
   rw[Vs]
   obtain⟨z11,g11⟩:=HQ1.cell
   obtain⟨y0,y1,y2,y3⟩:=BP (HLA _ HQ1.rm)
   have hl1:=Vj (HLA _ HQ1.rm)
   have hb1:=HQ1.lt
   go_wp2_with (at_builtin;refine h_ rfl (.tmp 37) (.tmp 39) 125 rfl 0 151 i1 (.agg #[Vb Vd 0,.string ⟨#[]⟩]) 2 24 bW hj hy0 hy1 hy2 rfl (by decide) _ _ _ rfl ((HQ1.alloc (.cells #[Vb Vd f2.toNat,.string ⟨d2.toArray⟩] 151)).alloc (.cells #[Vb Vd f2.toNat,.string ⟨d2.toArray⟩] 151)).own (a_ (wc1.heap.size+1) 0) 1 1 (gT [(f2,d2)]) rfl rfl ?hcel (jM _) ?h63 ?hby ?hba ?_)
   case hcel=>intro j u hj;first|exact hj|skip;rw[jB,BZ,show(#[Vb Vd f2.toNat,.string ⟨d2.toArray⟩]:Array Value)=(gT [(f2,d2)]).toArray from rfl,bC];exact hj
   case h63=>exact(show 3<=maxLen by unfold maxLen;omega)
   case hby=>exact(show 3*24<=140737488355328 by decide)
   case hba=>exact aN _
   intro v2 u2 hown hg hf
   obtain⟨p2,q2,hv2⟩:∃a c,v2=.slice a 3 c:=by obtain⟨a,c,e⟩:=jK hown;exact⟨a,c,e⟩
   subst hv2
   have HQ2:=gu (qi.grown (L2:=[(f2,d2)]) ((HQ1.alloc (.cells #[Vb Vd f2.toNat,.string ⟨d2.toArray⟩] 151)).alloc (.cells #[Vb Vd f2.toNat,.string ⟨d2.toArray⟩] 151)) hown hg (by
    rcases hf with q|⟨gg,q1,q2⟩
    ·exact au q
    ·exact aA ⟨gg,q1,by simp;omega⟩))
   obtain⟨wc2,hwc2⟩:∃x,x=u2.setCell (a_ b 11) (.slice p2 3 q2):=⟨_,rfl⟩
   have HU2:=gu ((hg.block b ((HQ1.alloc (.cells #[Vb Vd f2.toNat,.string ⟨d2.toArray⟩] 151)).alloc (.cells #[Vb Vd f2.toNat,.string ⟨d2.toArray⟩] 151)).lt (fun e=>(((HQ1.alloc (.cells #[Vb Vd f2.toNat,.string ⟨d2.toArray⟩] 151)).alloc (.cells #[Vb Vd f2.toNat,.string ⟨d2.toArray⟩] 151)).vb b e.symm).1 rfl)).trans ((HQ1.alloc (.cells #[Vb Vd f2.toNat,.string ⟨d2.toArray⟩] 151)).alloc (.cells #[Vb Vd f2.toNat,.string ⟨d2.toArray⟩] 151)).row)
   have f11:u2.frozen? (a_ b 11)=false:=by simp[World.frozen?,gB HU2]
   have x11:u2.cell? (a_ b 11)=some (.slice p1 2 q1):=HY u2 b 11 _ _ _ HU2
   rw[<-hwc2]at HQ2
   have HW2:=gu hwc2
   clear hwc2
   clear hown hg hf HQ1 z11 g11 hb1 y0 y1 y2 y3 hl1
   go_wp2
   rw[<-gB HW2]
   clear HW2 f11 x11 HU2
   rw[Vs]
   cases bb with
   |false=>
    obtain⟨LO,hLO⟩:∃LO,LO=kY kb [(f1,d1),(f2,d2)]:=⟨_,rfl⟩
    have HQ:Hid (qi w0 P G r wc2 b (.slice p2 3 q2) LO):=gu (by
     have q:=gB HQ2
     have e:LO=[(53,[kb]),(f1,d1),(f2,d2)]:=by rw[hLO,gB HEQ];rfl
     rw[e];exact q)
    have hlo:LO.length=3:=by rw[hLO,gB HEQ];rfl
    have hhv:heavy LO<=2000:=by
     have:=gB HD
     rw[hLO,gB HEQ];simp[heavy,jH];omega
    have HSB:Hid (S=Dh.nH false r.gF 0 0 0 [r.k0,r.k1,r.k2,r.k3,r.k4,r.k5] LO):=gu (by rw[hLO];exact HSS)
    have HAT:Hid (Dh.At wc2 p2 LO):=gu (by have q:=HQ.own;rw[<-hlo]at q;exact xw q)
    have hrow:=HQ.row
    have x0:wc2.cell? (a_ b 0)=some (.bool false):=HY wc2 b 0 _ _ _ hrow
    have x1:wc2.cell? (a_ b 1)=some (Vb Vf r.gF):=HY wc2 b 1 _ _ _ hrow
    have x2:wc2.cell? (a_ b 2)=some (Vb Vf 0):=HY wc2 b 2 _ _ _ hrow
    have x3:wc2.cell? (a_ b 3)=some (Vb Vf 0):=HY wc2 b 3 _ _ _ hrow
    have x4:wc2.cell? (a_ b 4)=some (Vb Vf 0):=HY wc2 b 4 _ _ _ hrow
    have x5:wc2.cell? (a_ b 5)=some (Vb Vd r.k0.toNat):=HY wc2 b 5 _ _ _ hrow
    have x6:wc2.cell? (a_ b 6)=some (Vb Vd r.k1.toNat):=HY wc2 b 6 _ _ _ hrow
    have x7:wc2.cell? (a_ b 7)=some (Vb Vd r.k2.toNat):=HY wc2 b 7 _ _ _ hrow
    have x8:wc2.cell? (a_ b 8)=some (Vb Vd r.k3.toNat):=HY wc2 b 8 _ _ _ hrow
    have x9:wc2.cell? (a_ b 9)=some (Vb Vd r.k4.toNat):=HY wc2 b 9 _ _ _ hrow
    have x10:wc2.cell? (a_ b 10)=some (Vb Vd r.k5.toNat):=HY wc2 b 10 _ _ _ hrow
    have x11:wc2.cell? (a_ b 11)=some (.slice p2 3 q2):=HY wc2 b 11 _ _ _ hrow
    have H5:=gu HQ.rm
    clear hLO hrow HQ HQ2 HEQ HSS
    go_wp2_with fail
    refine bE (by have q:=Dh.kz false r.gF 0 0 0 r.k0 r.k1 r.k2 r.k3 r.k4 r.k5 p2 q2 LO wc2 HX (by omega) (by omega) (by omega) HAT (by omega);rw[hlo]at q;exact q) ?_
    rintro ee u5 ⟨rfl,hb5⟩
    have H6:=gu (H5.below hb5)
    clear hb5 H5 HAT x0 x1 x2 x3 x4 x5 x6 x7 x8 x9 x10 x11 hhv
    rw[<-gB HSB]
    clear HSB
    obtain⟨g0,g1,g2,g3,g4,g5⟩:=H6.kL
    go_wp2
    go_region_held3 (fun u=>u.cell? (a_ 0 0)=some (Vb Vd 255)/\u.cell? (a_ 0 1)=some (Vb Vd 255)/\u.cell? (a_ 0 2)=some (Vb Vd 255)/\u.cell? (a_ 0 3)=some (Vb Vd 255)/\u.cell? (a_ 0 4)=some (Vb Vd 255)/\u.cell? (a_ 0 5)=some (Vb Vd 255)) (go_keep)
     (first|(go_at_call 95;refine(HP _ H6.drew).mono ?_;rintro ee u6 ⟨rfl,h7⟩;have H7:=gu h7;obtain⟨y0,y1,y2,y3,y4,y5⟩:=h7.kL;clear h7)|(go_at_call 90;refine(HS _ (by first|exact gB H7|exact H7.drew)).mono ?_;rintro ee u7 ⟨rfl,v7,h8⟩;have H8:=gu h8;obtain⟨z0,z1,z2,z3,z4,z5⟩:=h8.kL;clear h8))
    all_goals
     go_wp2
     go_end0
     exact⟨rfl,_,H8⟩
   |true=>
    obtain⟨z11,g11⟩:=HQ2.cell
    have hb2:=HQ2.lt
    go_wp2_with (at_builtin;refine h_ rfl (.tmp 46) (.tmp 48) 125 rfl 0 151 i1 (.agg #[Vb Vd 0,.string ⟨#[]⟩]) 2 24 bW hj hy0 hy1 hy2 rfl (by decide) _ _ _ rfl (HQ2.alloc (.cells #[Vb Vd 55,.string ⟨#[1,3,51,54,58,59]⟩] 151)).own (a_ wc2.heap.size 0) 1 1 (gT [(55,jH)]) rfl rfl ?hcel (jM _) ?h63 ?hby ?hba ?_)
    case hcel=>intro j u hj;first|exact hj|skip;rw[jB,mf,show(#[Vb Vd 55,.string ⟨#[1,3,51,54,58,59]⟩]:Array Value)=(gT [(55,jH)]).toArray from rfl,bC];exact hj
    case h63=>exact(show 4<=maxLen by unfold maxLen;omega)
    intro v3 u3 hown hg hf
    have HQ3:=gu (qi.grown (L2:=[(55,jH)]) (HQ2.alloc (.cells #[Vb Vd 55,.string ⟨#[1,3,51,54,58,59]⟩] 151)) hown hg (by
     rcases hf with q|⟨gg,q1,q2⟩
     ·exact au q
     ·exact aA ⟨gg,q1,by simp;omega⟩))
    have HU3:=gu ((hg.block b (HQ2.alloc (.cells #[Vb Vd 55,.string ⟨#[1,3,51,54,58,59]⟩] 151)).lt (fun e=>((HQ2.alloc (.cells #[Vb Vd 55,.string ⟨#[1,3,51,54,58,59]⟩] 151)).vb b e.symm).1 rfl)).trans (HQ2.alloc (.cells #[Vb Vd 55,.string ⟨#[1,3,51,54,58,59]⟩] 151)).row)
    have f11:u3.frozen? (a_ b 11)=false:=by simp[World.frozen?,gB HU3]
    have x11:u3.cell? (a_ b 11)=some (.slice p2 3 q2):=HY u3 b 11 _ _ _ HU3
    clear hown hg hf HQ2 z11 g11 hb2
    obtain⟨LO,hLO⟩:∃LO,LO=kY kb [(f1,d1),(f2,d2)]:=⟨_,rfl⟩
    have HQ:Hid (qi w0 P G r (u3.setCell (a_ b 11) v3) b v3 LO):=gu (by
     have q:=gB HQ3
     have e:LO=[(53,[kb]),(f1,d1),(f2,d2),(55,jH)]:=by rw[hLO,gB HEQ];rfl
     rw[e];exact q)
    obtain⟨a4,c4,hv4⟩:=ib HQ.own
    subst hv4
    have hhv:heavy LO<=2000:=by
     have:=gB HD
     rw[hLO,gB HEQ];simp[heavy,jH];omega
    have HSB:Hid (S=Dh.nH false r.gF 0 0 0 [r.k0,r.k1,r.k2,r.k3,r.k4,r.k5] LO):=gu (by rw[hLO];exact HSS)
    have HAT:Hid (Dh.At (u3.setCell (a_ b 11) (.slice a4 LO.length c4)) a4 LO):=gu (xw HQ.own)
    have hrow:=gB HU3
    have x0:u3.cell? (a_ b 0)=some (.bool false):=HY u3 b 0 _ _ _ hrow
    have x1:u3.cell? (a_ b 1)=some (Vb Vf r.gF):=HY u3 b 1 _ _ _ hrow
    have x2:u3.cell? (a_ b 2)=some (Vb Vf 0):=HY u3 b 2 _ _ _ hrow
    have x3:u3.cell? (a_ b 3)=some (Vb Vf 0):=HY u3 b 3 _ _ _ hrow
    have x4:u3.cell? (a_ b 4)=some (Vb Vf 0):=HY u3 b 4 _ _ _ hrow
    have x5:u3.cell? (a_ b 5)=some (Vb Vd r.k0.toNat):=HY u3 b 5 _ _ _ hrow
    have x6:u3.cell? (a_ b 6)=some (Vb Vd r.k1.toNat):=HY u3 b 6 _ _ _ hrow
    have x7:u3.cell? (a_ b 7)=some (Vb Vd r.k2.toNat):=HY u3 b 7 _ _ _ hrow
    have x8:u3.cell? (a_ b 8)=some (Vb Vd r.k3.toNat):=HY u3 b 8 _ _ _ hrow
    have x9:u3.cell? (a_ b 9)=some (Vb Vd r.k4.toNat):=HY u3 b 9 _ _ _ hrow
    have x10:u3.cell? (a_ b 10)=some (Vb Vd r.k5.toNat):=HY u3 b 10 _ _ _ hrow
    have x11:u3.cell? (a_ b 11)=some (.slice p2 3 q2):=HY u3 b 11 _ _ _ hrow
    have H5:=gu HQ.rm
    clear hLO hrow HQ HQ3 HEQ HU3 HSS
    go_wp2_with fail
    refine(Dh.kz false r.gF 0 0 0 r.k0 r.k1 r.k2 r.k3 r.k4 r.k5 a4 c4 LO _ HX (by omega) (by omega) (by omega) HAT (by omega)).mono ?_
    rintro ee u5 ⟨rfl,hb5⟩
    have H6:=gu (H5.below hb5)
    clear hb5 H5 HAT x0 x1 x2 x3 x4 x5 x6 x7 x8 x9 x10 x11 hhv
    rw[<-gB HSB]
    clear HSB
    obtain⟨g0,g1,g2,g3,g4,g5⟩:=H6.kL
    go_wp2
    go_region_held3 (fun u=>u.cell? (a_ 0 0)=some (Vb Vd 255)/\u.cell? (a_ 0 1)=some (Vb Vd 255)/\u.cell? (a_ 0 2)=some (Vb Vd 255)/\u.cell? (a_ 0 3)=some (Vb Vd 255)/\u.cell? (a_ 0 4)=some (Vb Vd 255)/\u.cell? (a_ 0 5)=some (Vb Vd 255)) (go_keep)
     (first|(go_at_call 95;refine(HP _ H6.drew).mono ?_;rintro ee u6 ⟨rfl,h7⟩;have H7:=gu h7;obtain⟨y0,y1,y2,y3,y4,y5⟩:=h7.kL;clear h7)|(go_at_call 90;refine(HS _ (by first|exact gB H7|exact H7.drew)).mono ?_;rintro ee u7 ⟨rfl,v7,h8⟩;have H8:=gu h8;obtain⟨z0,z1,z2,z3,z4,z5⟩:=h8.kL;clear h8))
    all_goals
     go_wp2
     go_end0
     exact⟨rfl,_,H8⟩
theorem Oy(h:Rm w0 P w G r)(hl:r.gK<4)(kb:UInt8)(hk4:kb.toNat≠4)(hx:0<=r.gF/\r.gF<=4294967295)(htx:r.tx<=16)(htl:r.tl.length<=r.tx):
  f_ prog 62 #[p_ G,Vb Vd kb.toNat,.bool false,.slice none 0 0] w fun ee w'=>ee=.returned (.tuple #[])/\∃v,Rm w0 P w' G (r.pU kb v):=
 Jw h hl kb true (by rw[fH];omega) hx htx htl _ [] (au ⟨rfl,rfl,rfl⟩)
theorem Df(h:Rm w0 P w G r)(hl:r.gK<4)(kb:UInt8)(bb:Bool)(hbb:((kb.toNat:Int)!=4)=bb)(hx:0<=r.gF/\r.gF<=4294967295)(htx:r.tx<=16)(htl:r.tl.length<=r.tx)
  (la:Nat) (f1 f2:UInt8) (d1 d2:List UInt8) (hla:w.heap[la]?=some (.cells (rC f1.toNat ⟨d1.toArray⟩ f2.toNat ⟨d2.toArray⟩) 151 (0,0))) (hlw:la<w0.heap.size) (hlP: ¬P la) (hd:d1.length<=100/\d2.length<=100):
  f_ prog 62 #[p_ G,Vb Vd kb.toNat,.bool false,.slice (some (a_ la 0)) 2 2] w fun ee w'=>ee=.returned (.tuple #[])/\∃v,Rm w0 P w' G (r.jV kb [(f1,d1),(f2,d2)] v):=
 Jw h hl kb bb hbb hx htx htl _ _ (aA ⟨la,f1,f2,d1,d2,rfl,rfl,hla,hlw,hlP,hd.1,hd.2⟩)
end Ref
end Go.Proofs.YtbhbbeebncmaiaaGreatDoor
