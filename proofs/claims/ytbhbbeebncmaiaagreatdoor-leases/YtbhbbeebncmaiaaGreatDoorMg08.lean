import Derived.Test.YtbhbbeebncmaiaaGreatDoorMg06
import Derived.Test.YtbhbbeebncmaiaaGreatDoorMg07
set_option linter.all false
set_option maxHeartbeats 1000000
open Go.ChangeShapes Go.WideShapes Go.ChangeAt Go.RowKit
open Go renaming World → fV, Calls → f_
open Go.RowKit renaming Below → gm
open Go.Proofs.Tryz renaming prog → Vh
open Go.Value renaming int → Vb
open Go.IntKind renaming u8 → Vd, u16 → Ve, u32 → Vf, i64 → Vg
open Go.Proofs.Tryz
namespace Go.Proofs.YtbhbbeebncmaiaaGreatDoor
namespace QE
open Bs Rd
open gP (gD gM gI jk iP iG jE)
theorem xh{w:fV}{g:Nat}{t:TypeId}(b0 b1 b2 b3 b4 b5 b6 b7 b8 b9 b10 b11 b12 b13 b14 v0 v1 v2 v3 v4 v5 v6 v7 v8 v9 v10 v11 v12 v13 v14:Value)(h:w.heap[g]?=some (.cells #[b0,b1,b2,b3,b4,b5,b6,b7,b8,b9,b10,b11,b12,b13,b14] t (0,0))):
  (((((((((((((((w.setCell (a_ g 0) v0).setCell (a_ g 1) v1).setCell (a_ g 2) v2).setCell (a_ g 3) v3).setCell (a_ g 4) v4).setCell (a_ g 5) v5).setCell (a_ g 6) v6).setCell (a_ g 7) v7).setCell (a_ g 8) v8).setCell (a_ g 9) v9).setCell (a_ g 10) v10).setCell (a_ g 11) v11).setCell (a_ g 12) v12).setCell (a_ g 13) v13).setCell (a_ g 14) v14).heap[g]?=some (.cells #[v0,v1,v2,v3,v4,v5,v6,v7,v8,v9,v10,v11,v12,v13,v14] t (0,0)):=by
 have q:=gI (gI (gI (gI (gI (gI (gI (gI (gI (gI (gI (gI (gI (gI (gI h 0 v0) 1 v1) 2 v2) 3 v3) 4 v4) 5 v5) 6 v6) 7 v7) 8 v8) 9 v9) 10 v10) 11 v11) 12 v12) 13 v13) 14 v14
 simpa only[ae,ah,af]using q
theorem jf(p:Addr)(x k:Int)(older:List PanicEntry)(w:fV)(hc:w.cell? p=some (Vb Vg x))(hz:w.frozen? p=false):
  CallsD Vh 242 #[.pointer (some p)] (.panicking ({v:=.iface 58 (Vb Vg k),recovered:=false}::older)) w fun e u' w'=>
   e=.returned (.tuple #[])/\u'=.panicking ({v:=.iface 58 (Vb Vg k),recovered:=true}::older)/\w'=w.setCell p (Vb Vg k):=by
 refine VE func242 rfl fun c₀ cs hu=> ?_
 apply VV
 apply VM
 simp[wpOpsS,go_sem,recoverD,hu,ntmps242,Exit.thenS]
 refine VP ?_
 change Code.wp _ _ _ {tmps:=#[.pointer (some p),.iface 58 (Vb Vg k),.iface 58 (Vb Vg k),undef,undef,undef,undef],defers:=[]} _
 have hta:=fun u=>jE k u
 go_wp2
 exact⟨rfl,_,rfl,.tuple #[],by simp[results,results242],rfl,rfl,rfl⟩
theorem kT(p:Addr)(w:fV):
  CallsD Vh 242 #[.pointer (some p)] .returning w fun e u' w'=>e=.returned (.tuple #[])/\u'=.returning/\w'=w:=by
 refine VE func242 rfl fun c₀ cs hu=> ?_
 apply VV
 apply VM
 simp[wpOpsS,go_sem,recoverD,hu,ntmps242,Exit.thenS]
 refine VP ?_
 change Code.wp _ _ _ {tmps:=#[.pointer (some p),.nilIface,.nilIface,undef,undef,undef,undef],defers:=[]} _
 go_wp2
 cases c₀
 simp_all[bodyPostS,results,results242]
theorem blocks{w w1 W:fV}{s:ByteArray}(g:W.grownBy w1 (some (w.heap.size+1+1)))(hW:W=((w.alloc (.cells zA_ 115)).alloc (.cells #[Vb Vg 0] 58)).alloc (.cells #[.string s] 217)):
  w1.heap[w.heap.size]?=some (.cells zA_ 115 (0,0))/\w1.heap[w.heap.size+1]?=some (.cells #[Vb Vg 0] 58 (0,0)):=by
 have z2:((w.alloc (.cells zA_ 115)).alloc (.cells #[Vb Vg 0] 58)).heap.size=w.heap.size+1+1:=by simp
 have z1:(w.alloc (.cells zA_ 115)).heap.size=w.heap.size+1:=by simp
 have e0:W.heap[w.heap.size]?=some (.cells zA_ 115 (0,0)):=by
  rw[hW,Vi _ _ _ (by omega),Vi _ _ _ (by omega)];exact G8 w _
 have e1:W.heap[w.heap.size+1]?=some (.cells #[Vb Vg 0] 58 (0,0)):=by
  rw[hW,Vi _ _ _ (by omega)]
  have q:=G8 (w.alloc (.cells zA_ 115)) (.cells #[Vb Vg 0] 58)
  rw[z1]at q
  exact q
 exact⟨(g.block _ (Vj e0) (fun q=>by simp at q;omega)).trans e0,(g.block _ (Vj e1) (fun q=>by simp at q)).trans e1⟩
theorem je(s:ByteArray)(k:Int)(w:fV)
  (hR:∀u B,iL u B s.data.toList->f_ Vh 207 #[p_ B] u fun ee w'=>ee=.panicked (iH k)/\u.grownBy w' (some B)):
  f_ Vh 206 #[.string s,.func (.func 207) #[] #[]] w fun ee w'=>ee=.returned (.tuple #[.agg zA_,Vb Vg k])/\gm w.heap.size w w':=by
 have hmf:∀(fn:Fn) (first cap:Array Value) (w:fV),(Instr.makeFunc fn first cap).run Vh w=.ok (.func fn first cap) w:=fun _ _ _ _=>rfl
 have HR:=gu hR
 clear hR
 go_enter_defers func206,ntmps206
 go_wp2_with fail
 refine(HR _ _ (iG _ _ s (by simp))).mono ?_
 rintro ee w1 ⟨rfl,g1⟩
 obtain⟨hr,he⟩:=blocks g1 rfl
 have d0:w1.cell? (a_ w.heap.size 0)=some (Vb Ve 0):=gD hr rfl
 have d1:w1.cell? (a_ w.heap.size 1)=some (Vb Vd 0):=gD hr rfl
 have d2:w1.cell? (a_ w.heap.size 2)=some (Vb Vd 0):=gD hr rfl
 have d3:w1.cell? (a_ w.heap.size 3)=some (Vb Vd 0):=gD hr rfl
 have d4:w1.cell? (a_ w.heap.size 4)=some (Vb Vd 0):=gD hr rfl
 have d5:w1.cell? (a_ w.heap.size 5)=some (Vb Vd 0):=gD hr rfl
 have d6:w1.cell? (a_ w.heap.size 6)=some (Vb Vd 0):=gD hr rfl
 have d7:w1.cell? (a_ w.heap.size 7)=some (Vb Vf 0):=gD hr rfl
 have d8:w1.cell? (a_ w.heap.size 8)=some (Vb Vd 0):=gD hr rfl
 have d9:w1.cell? (a_ w.heap.size 9)=some (Vb Vd 0):=gD hr rfl
 have d10:w1.cell? (a_ w.heap.size 10)=some (Vb Vd 0):=gD hr rfl
 have d11:w1.cell? (a_ w.heap.size 11)=some (Vb Vd 0):=gD hr rfl
 have d12:w1.cell? (a_ w.heap.size 12)=some (Vb Vd 0):=gD hr rfl
 have d13:w1.cell? (a_ w.heap.size 13)=some (Vb Vd 0):=gD hr rfl
 have d14:w1.cell? (a_ w.heap.size 14)=some (Vb Vf 0):=gD hr rfl
 have hc:=Vm he
 have hf:=Vy he
 refine VF (f:=242) (args:=#[p_ (w.heap.size+1)]) (by simp) (by simp[go_sem]) ?_
 refine(jf (a_ (w.heap.size+1) 0) 0 k [] _ hc hf).mono ?_
 rintro e u' w'' ⟨rfl,rfl,rfl⟩
 simp[Leaves,settle,results,results206,go_sem,d0,d1,d2,d3,d4,d5,d6,d7,d8,d9,d10,d11,d12,d13,d14,hc]
 exact(jk g1 ((((R9 _ w).alloc (ai _) _).alloc (by simp) _).alloc (by simp;omega) _) (by omega)).setCell (by simp) _
theorem nK(s:ByteArray)(a0 a1 a2 a3 a4 a5 a6 a7 a8 a9 a10 a11 a12 a13 a14:Int)(w:fV)
  (hR:∀u B,iL u B s.data.toList->f_ Vh 207 #[p_ B] u fun ee w'=>ee=.returned (.agg (rA a0 a1 a2 a3 a4 a5 a6 a7 a8 a9 a10 a11 a12 a13 a14))/\u.grownBy w' (some B)):
  f_ Vh 206 #[.string s,.func (.func 207) #[] #[]] w fun ee w'=>ee=.returned (.tuple #[.agg (rA a0 a1 a2 a3 a4 a5 a6 a7 a8 a9 a10 a11 a12 a13 a14),Vb Vg 0])/\gm w.heap.size w w':=by
 have hmf:∀(fn:Fn) (first cap:Array Value) (w:fV),(Instr.makeFunc fn first cap).run Vh w=.ok (.func fn first cap) w:=fun _ _ _ _=>rfl
 have HR:=gu hR
 clear hR
 go_enter_defers func206,ntmps206
 go_wp2_with fail
 refine(HR _ _ (iG _ _ s (by simp))).mono ?_
 rintro ee w1 ⟨rfl,g1⟩
 obtain⟨hr,he⟩:=blocks g1 rfl
 have d0:w1.cell? (a_ w.heap.size 0)=some (Vb Ve 0):=gD hr rfl
 have d1:w1.cell? (a_ w.heap.size 1)=some (Vb Vd 0):=gD hr rfl
 have d2:w1.cell? (a_ w.heap.size 2)=some (Vb Vd 0):=gD hr rfl
 have d3:w1.cell? (a_ w.heap.size 3)=some (Vb Vd 0):=gD hr rfl
 have d4:w1.cell? (a_ w.heap.size 4)=some (Vb Vd 0):=gD hr rfl
 have d5:w1.cell? (a_ w.heap.size 5)=some (Vb Vd 0):=gD hr rfl
 have d6:w1.cell? (a_ w.heap.size 6)=some (Vb Vd 0):=gD hr rfl
 have d7:w1.cell? (a_ w.heap.size 7)=some (Vb Vf 0):=gD hr rfl
 have d8:w1.cell? (a_ w.heap.size 8)=some (Vb Vd 0):=gD hr rfl
 have d9:w1.cell? (a_ w.heap.size 9)=some (Vb Vd 0):=gD hr rfl
 have d10:w1.cell? (a_ w.heap.size 10)=some (Vb Vd 0):=gD hr rfl
 have d11:w1.cell? (a_ w.heap.size 11)=some (Vb Vd 0):=gD hr rfl
 have d12:w1.cell? (a_ w.heap.size 12)=some (Vb Vd 0):=gD hr rfl
 have d13:w1.cell? (a_ w.heap.size 13)=some (Vb Vd 0):=gD hr rfl
 have d14:w1.cell? (a_ w.heap.size 14)=some (Vb Vf 0):=gD hr rfl
 have fr:=gM hr
 have hc:=Vm he
 have hf:=Vy he
 have HB:=gu (jk g1 ((((R9 _ w).alloc (ai _) _).alloc (by simp) _).alloc (by simp;omega) _) (by omega))
 obtain⟨U,hU⟩:∃U,U=((((((((((((((((w1.setCell (a_ w.heap.size 0) (Vb Ve a0)).setCell (a_ w.heap.size 1) (Vb Vd a1)).setCell (a_ w.heap.size 2) (Vb Vd a2)).setCell (a_ w.heap.size 3) (Vb Vd a3)).setCell (a_ w.heap.size 4) (Vb Vd a4)).setCell (a_ w.heap.size 5) (Vb Vd a5)).setCell (a_ w.heap.size 6) (Vb Vd a6)).setCell (a_ w.heap.size 7) (Vb Vf a7)).setCell (a_ w.heap.size 8) (Vb Vd a8)).setCell (a_ w.heap.size 9) (Vb Vd a9)).setCell (a_ w.heap.size 10) (Vb Vd a10)).setCell (a_ w.heap.size 11) (Vb Vd a11)).setCell (a_ w.heap.size 12) (Vb Vd a12)).setCell (a_ w.heap.size 13) (Vb Vd a13)).setCell (a_ w.heap.size 14) (Vb Vf a14)).setCell (a_ (w.heap.size+1) 0) (Vb Vg 0)):=⟨_,rfl⟩
 have hu:U.heap[w.heap.size]?=some (.cells (rA a0 a1 a2 a3 a4 a5 a6 a7 a8 a9 a10 a11 a12 a13 a14) 115 (0,0)):=by
  rw[hU,R8 _ _ _ _ (by simp)]
  exact xh _ _ _ _ _ _ _ _ _ _ _ _ _ _ _ _ _ _ _ _ _ _ _ _ _ _ _ _ _ _ hr
 have hv:U.heap[w.heap.size+1]?=some (.cells #[Vb Vg 0] 58 (0,0)):=by
  rw[hU]
  refine VR (v:=Vb Vg 0) ?_
  rw[R8 _ _ _ _ (by simp),R8 _ _ _ _ (by simp),R8 _ _ _ _ (by simp),R8 _ _ _ _ (by simp),R8 _ _ _ _ (by simp),R8 _ _ _ _ (by simp),R8 _ _ _ _ (by simp),R8 _ _ _ _ (by simp),R8 _ _ _ _ (by simp),R8 _ _ _ _ (by simp),R8 _ _ _ _ (by simp),R8 _ _ _ _ (by simp),R8 _ _ _ _ (by simp),R8 _ _ _ _ (by simp),R8 _ _ _ _ (by simp)]
  exact he
 have HBU:Hid (gm w.heap.size w U):=by
  show gm w.heap.size w U
  rw[hU]
  refine VT ?_ (by simp) _
  iterate 15 refine iP ?_
  exact HB
 have u0:U.cell? (a_ w.heap.size 0)=some (Vb Ve a0):=gD hu rfl
 have u1:U.cell? (a_ w.heap.size 1)=some (Vb Vd a1):=gD hu rfl
 have u2:U.cell? (a_ w.heap.size 2)=some (Vb Vd a2):=gD hu rfl
 have u3:U.cell? (a_ w.heap.size 3)=some (Vb Vd a3):=gD hu rfl
 have u4:U.cell? (a_ w.heap.size 4)=some (Vb Vd a4):=gD hu rfl
 have u5:U.cell? (a_ w.heap.size 5)=some (Vb Vd a5):=gD hu rfl
 have u6:U.cell? (a_ w.heap.size 6)=some (Vb Vd a6):=gD hu rfl
 have u7:U.cell? (a_ w.heap.size 7)=some (Vb Vf a7):=gD hu rfl
 have u8:U.cell? (a_ w.heap.size 8)=some (Vb Vd a8):=gD hu rfl
 have u9:U.cell? (a_ w.heap.size 9)=some (Vb Vd a9):=gD hu rfl
 have u10:U.cell? (a_ w.heap.size 10)=some (Vb Vd a10):=gD hu rfl
 have u11:U.cell? (a_ w.heap.size 11)=some (Vb Vd a11):=gD hu rfl
 have u12:U.cell? (a_ w.heap.size 12)=some (Vb Vd a12):=gD hu rfl
 have u13:U.cell? (a_ w.heap.size 13)=some (Vb Vd a13):=gD hu rfl
 have u14:U.cell? (a_ w.heap.size 14)=some (Vb Vf a14):=gD hu rfl
 have uv:=Vm hv
 have HU:=gu hU
 clear g1 hr he hu hv hU
 go_wp2
 rw[<-gB HU]
 clear HU d0 d1 d2 d3 d4 d5 d6 d7 d8 d9 d10 d11 d12 d13 d14 hc hf fr
 refine VF (f:=242) (args:=#[p_ (w.heap.size+1)]) (by simp) (by simp[go_sem]) ?_
 refine(kT (a_ (w.heap.size+1) 0) _).mono ?_
 rintro e u' w'' ⟨rfl,rfl,rfl⟩
 simp[Leaves,settle,results,results206,go_sem,u0,u1,u2,u3,u4,u5,u6,u7,u8,u9,u10,u11,u12,u13,u14,uv]
 exact HBU
end QE
namespace QE
open Bs Rd
open gP (gD gM gI iP)
theorem iU(s:ByteArray)(a0 a1 a2 a3 a4 a5 a6 a7 a8 a9 a10 a11 a12 a13 a14 k:Int)(w:fV)
  (hR:∀u:fV,f_ Vh 206 #[.string s,.func (.func 207) #[] #[]] u fun ee w'=>ee=.returned (.tuple #[.agg (rA a0 a1 a2 a3 a4 a5 a6 a7 a8 a9 a10 a11 a12 a13 a14),Vb Vg k])/\gm u.heap.size u w'):
  f_ Vh 167 #[.string s] w fun ee w'=>ee=.returned (.tuple #[.agg (rA a0 a1 a2 a3 a4 a5 a6 a7 a8 a9 a10 a11 a12 a13 a14),Vb Vg k])/\gm w.heap.size w w':=by
 have HR:=gu hR
 clear hR
 go_enter func167,ntmps167
 go_wp2_with fail
 refine(HR _).mono ?_
 rintro ee w1 ⟨rfl,hb⟩
 have hr:w1.heap[w.heap.size]?=some (.cells zA_ 115 (0,0)):=(hb.block _ (by simp)).trans (G8 w _)
 have d0:w1.cell? (a_ w.heap.size 0)=some (Vb Ve 0):=gD hr rfl
 have d1:w1.cell? (a_ w.heap.size 1)=some (Vb Vd 0):=gD hr rfl
 have d2:w1.cell? (a_ w.heap.size 2)=some (Vb Vd 0):=gD hr rfl
 have d3:w1.cell? (a_ w.heap.size 3)=some (Vb Vd 0):=gD hr rfl
 have d4:w1.cell? (a_ w.heap.size 4)=some (Vb Vd 0):=gD hr rfl
 have d5:w1.cell? (a_ w.heap.size 5)=some (Vb Vd 0):=gD hr rfl
 have d6:w1.cell? (a_ w.heap.size 6)=some (Vb Vd 0):=gD hr rfl
 have d7:w1.cell? (a_ w.heap.size 7)=some (Vb Vf 0):=gD hr rfl
 have d8:w1.cell? (a_ w.heap.size 8)=some (Vb Vd 0):=gD hr rfl
 have d9:w1.cell? (a_ w.heap.size 9)=some (Vb Vd 0):=gD hr rfl
 have d10:w1.cell? (a_ w.heap.size 10)=some (Vb Vd 0):=gD hr rfl
 have d11:w1.cell? (a_ w.heap.size 11)=some (Vb Vd 0):=gD hr rfl
 have d12:w1.cell? (a_ w.heap.size 12)=some (Vb Vd 0):=gD hr rfl
 have d13:w1.cell? (a_ w.heap.size 13)=some (Vb Vd 0):=gD hr rfl
 have d14:w1.cell? (a_ w.heap.size 14)=some (Vb Vf 0):=gD hr rfl
 have fr:=gM hr
 have HB:Hid (gm w.heap.size w w1):=gu (((R9 _ w).alloc (ai _) _).trans (hb.mono (by simp)))
 obtain⟨U,hU⟩:∃U,U=(((((((((((((((w1.setCell (a_ w.heap.size 0) (Vb Ve a0)).setCell (a_ w.heap.size 1) (Vb Vd a1)).setCell (a_ w.heap.size 2) (Vb Vd a2)).setCell (a_ w.heap.size 3) (Vb Vd a3)).setCell (a_ w.heap.size 4) (Vb Vd a4)).setCell (a_ w.heap.size 5) (Vb Vd a5)).setCell (a_ w.heap.size 6) (Vb Vd a6)).setCell (a_ w.heap.size 7) (Vb Vf a7)).setCell (a_ w.heap.size 8) (Vb Vd a8)).setCell (a_ w.heap.size 9) (Vb Vd a9)).setCell (a_ w.heap.size 10) (Vb Vd a10)).setCell (a_ w.heap.size 11) (Vb Vd a11)).setCell (a_ w.heap.size 12) (Vb Vd a12)).setCell (a_ w.heap.size 13) (Vb Vd a13)).setCell (a_ w.heap.size 14) (Vb Vf a14)):=⟨_,rfl⟩
 have hu:U.heap[w.heap.size]?=some (.cells (rA a0 a1 a2 a3 a4 a5 a6 a7 a8 a9 a10 a11 a12 a13 a14) 115 (0,0)):=by
  rw[hU]
  exact xh _ _ _ _ _ _ _ _ _ _ _ _ _ _ _ _ _ _ _ _ _ _ _ _ _ _ _ _ _ _ hr
 have HBU:Hid (gm w.heap.size w U):=by
  show gm w.heap.size w U
  rw[hU]
  iterate 15 refine iP ?_
  exact HB
 have u0:U.cell? (a_ w.heap.size 0)=some (Vb Ve a0):=gD hu rfl
 have u1:U.cell? (a_ w.heap.size 1)=some (Vb Vd a1):=gD hu rfl
 have u2:U.cell? (a_ w.heap.size 2)=some (Vb Vd a2):=gD hu rfl
 have u3:U.cell? (a_ w.heap.size 3)=some (Vb Vd a3):=gD hu rfl
 have u4:U.cell? (a_ w.heap.size 4)=some (Vb Vd a4):=gD hu rfl
 have u5:U.cell? (a_ w.heap.size 5)=some (Vb Vd a5):=gD hu rfl
 have u6:U.cell? (a_ w.heap.size 6)=some (Vb Vd a6):=gD hu rfl
 have u7:U.cell? (a_ w.heap.size 7)=some (Vb Vf a7):=gD hu rfl
 have u8:U.cell? (a_ w.heap.size 8)=some (Vb Vd a8):=gD hu rfl
 have u9:U.cell? (a_ w.heap.size 9)=some (Vb Vd a9):=gD hu rfl
 have u10:U.cell? (a_ w.heap.size 10)=some (Vb Vd a10):=gD hu rfl
 have u11:U.cell? (a_ w.heap.size 11)=some (Vb Vd a11):=gD hu rfl
 have u12:U.cell? (a_ w.heap.size 12)=some (Vb Vd a12):=gD hu rfl
 have u13:U.cell? (a_ w.heap.size 13)=some (Vb Vd a13):=gD hu rfl
 have u14:U.cell? (a_ w.heap.size 14)=some (Vb Vf a14):=gD hu rfl
 have HU:=gu hU
 clear hr hu hU hb HR
 go_wp2
 rw[<-gB HU]
 clear HU d0 d1 d2 d3 d4 d5 d6 d7 d8 d9 d10 d11 d12 d13 d14 fr
 exact Vl (v:=.tuple #[.agg (rA a0 a1 a2 a3 a4 a5 a6 a7 a8 a9 a10 a11 a12 a13 a14),Vb Vg k]) (by simp[results,results167,go_sem,u0,u1,u2,u3,u4,u5,u6,u7,u8,u9,u10,u11,u12,u13,u14]) rfl ⟨rfl,HBU⟩
end QE
namespace Rr
open Bs Rd
theorem xH(s:ByteArray)(w:fV)(hs:s.size<28):
  f_ Vh 66 #[.string s] w fun ee w'=>ee=.returned (.tuple #[.agg zA_,Vb Vg 1])/\gm w.heap.size w w':=by
 go_enter func66,ntmps66
 go_wp2
 exact Vl (v:=.tuple #[.agg zA_,Vb Vg 1]) (by simp[results,results66,go_sem]) rfl ⟨rfl,(R9 _ _).alloc (ai _) _⟩
theorem Ah(h1 h2 h3 h4 h5 h6 o o' a b c d e f i1 i2 i3 i4 a' b' c' d' e' f' j1 j2 j3 j4:UInt8)(l:List UInt8)(w:fV)(hs:l.length+28<=9223372036854775807)(hh:QE.nC h1 h2 h3 h4 h5 h6=false):
  f_ Vh 66 #[.string ⟨(h1::h2::h3::h4::h5::h6::o::o'::a::b::c::d::e::f::i1::i2::i3::i4::a'::b'::c'::d'::e'::f'::j1::j2::j3::j4::l).toArray⟩] w fun ee w'=>ee=.returned (.tuple #[.agg zA_,Vb Vg 2])/\gm w.heap.size w w':=by
 obtain⟨s,hS⟩:∃s:ByteArray,s=⟨(h1::h2::h3::h4::h5::h6::o::o'::a::b::c::d::e::f::i1::i2::i3::i4::a'::b'::c'::d'::e'::f'::j1::j2::j3::j4::l).toArray⟩:=⟨_,rfl⟩
 have hz:s.size=l.length+28:=by rw[hS,gL];simp
 have O1:Hid (∀u:fV,f_ Vh 102 #[.string (s.extract 6 8)] u fun ee w'=>ee=.returned (Vb Vg (256*(o.toNat:Int)+(o'.toNat:Int)))/\w'=u):=gu (fun u=>by
  have e1:s.extract 6 8=⟨#[o,o']⟩:=by rw[hS];apply aC;rw[az];apply aJ;simp
  rw[e1]
  have q:=iE ⟨#[o,o']⟩ u (show 2<=4 by omega)
  rw[show jI (⟨#[o,o']⟩:ByteArray).data.toList=256*(o.toNat:Int)+(o'.toNat:Int)from by simp[jI]]at q
  exact q)
 have e6:(s.extract 0 6).toList=[h1,h2,h3,h4,h5,h6]:=by
  rw[hS,iX,Vw];rfl
 obtain⟨x,hx⟩:∃x,x=256*(o.toNat:Int)+(o'.toNat:Int):=⟨_,rfl⟩
 have hx0:0<=x/\x<=65535:=by have p1:=o.toNat_lt;have p2:=o'.toNat_lt;omega
 obtain⟨hx1,hx2⟩:=hx0
 rw[<-hx]at O1
 have k6:(6:Int)<=(s.size:Int):=by omega
 have k8:(8:Int)<=(s.size:Int):=by omega
 have k14:(14:Int)<=(s.size:Int):=by omega
 have k18:(18:Int)<=(s.size:Int):=by omega
 have k24:(24:Int)<=(s.size:Int):=by omega
 have k28:(28:Int)<=(s.size:Int):=by omega
 have k28': ¬(s.size:Int)<28:=by omega
 have hmx:(s.size:Int)<=9223372036854775807:=by omega
 have hq:((s.extract 0 6).toList==[0,1,8,0,6,4])=false:=by rw[e6];exact hh
 clear hh e6
 rw[<-hS]
 clear hS hz hx
 go_enter func66,ntmps66
 go_wp2_with fail
 refine(O1 _).mono ?_
 rintro ee w1 ⟨rfl,rfl⟩
 go_wp2
 exact Vl (v:=.tuple #[.agg zA_,Vb Vg 2]) (by simp[results,results66,go_sem]) rfl ⟨rfl,(R9 _ _).alloc (ai _) _⟩
theorem OQ(h1 h2 h3 h4 h5 h6 o o' a b c d e f i1 i2 i3 i4 a' b' c' d' e' f' j1 j2 j3 j4:UInt8)(l:List UInt8)(w:fV)(hs:l.length+28<=9223372036854775807)(hh:QE.nC h1 h2 h3 h4 h5 h6=true)(ho:256*(o.toNat:Int)+(o'.toNat:Int)<1):
  f_ Vh 66 #[.string ⟨(h1::h2::h3::h4::h5::h6::o::o'::a::b::c::d::e::f::i1::i2::i3::i4::a'::b'::c'::d'::e'::f'::j1::j2::j3::j4::l).toArray⟩] w fun ee w'=>ee=.returned (.tuple #[.agg zA_,Vb Vg 2])/\gm w.heap.size w w':=by
 obtain⟨s,hS⟩:∃s:ByteArray,s=⟨(h1::h2::h3::h4::h5::h6::o::o'::a::b::c::d::e::f::i1::i2::i3::i4::a'::b'::c'::d'::e'::f'::j1::j2::j3::j4::l).toArray⟩:=⟨_,rfl⟩
 have hz:s.size=l.length+28:=by rw[hS,gL];simp
 have O1:Hid (∀u:fV,f_ Vh 102 #[.string (s.extract 6 8)] u fun ee w'=>ee=.returned (Vb Vg (256*(o.toNat:Int)+(o'.toNat:Int)))/\w'=u):=gu (fun u=>by
  have e1:s.extract 6 8=⟨#[o,o']⟩:=by rw[hS];apply aC;rw[az];apply aJ;simp
  rw[e1]
  have q:=iE ⟨#[o,o']⟩ u (show 2<=4 by omega)
  rw[show jI (⟨#[o,o']⟩:ByteArray).data.toList=256*(o.toNat:Int)+(o'.toNat:Int)from by simp[jI]]at q
  exact q)
 have e6:(s.extract 0 6).toList=[h1,h2,h3,h4,h5,h6]:=by
  rw[hS,iX,Vw];rfl
 obtain⟨x,hx⟩:∃x,x=256*(o.toNat:Int)+(o'.toNat:Int):=⟨_,rfl⟩
 have hx0:0<=x/\x<=65535:=by have p1:=o.toNat_lt;have p2:=o'.toNat_lt;omega
 obtain⟨hx1,hx2⟩:=hx0
 rw[<-hx]at O1
 have k6:(6:Int)<=(s.size:Int):=by omega
 have k8:(8:Int)<=(s.size:Int):=by omega
 have k14:(14:Int)<=(s.size:Int):=by omega
 have k18:(18:Int)<=(s.size:Int):=by omega
 have k24:(24:Int)<=(s.size:Int):=by omega
 have k28:(28:Int)<=(s.size:Int):=by omega
 have k28': ¬(s.size:Int)<28:=by omega
 have hmx:(s.size:Int)<=9223372036854775807:=by omega
 have hq:((s.extract 0 6).toList==[0,1,8,0,6,4])=true:=by rw[e6];exact hh
 rw[<-hx]at ho
 clear hh e6
 rw[<-hS]
 clear hS hz hx
 go_enter func66,ntmps66
 go_wp2_with fail
 refine(O1 _).mono ?_
 rintro ee w1 ⟨rfl,rfl⟩
 go_wp2
 exact Vl (v:=.tuple #[.agg zA_,Vb Vg 2]) (by simp[results,results66,go_sem]) rfl ⟨rfl,(R9 _ _).alloc (ai _) _⟩
theorem OP(h1 h2 h3 h4 h5 h6 o o' a b c d e f i1 i2 i3 i4 a' b' c' d' e' f' j1 j2 j3 j4:UInt8)(l:List UInt8)(w:fV)(hs:l.length+28<=9223372036854775807)(hh:QE.nC h1 h2 h3 h4 h5 h6=true)(ho:2<256*(o.toNat:Int)+(o'.toNat:Int)):
  f_ Vh 66 #[.string ⟨(h1::h2::h3::h4::h5::h6::o::o'::a::b::c::d::e::f::i1::i2::i3::i4::a'::b'::c'::d'::e'::f'::j1::j2::j3::j4::l).toArray⟩] w fun ee w'=>ee=.returned (.tuple #[.agg zA_,Vb Vg 2])/\gm w.heap.size w w':=by
 obtain⟨s,hS⟩:∃s:ByteArray,s=⟨(h1::h2::h3::h4::h5::h6::o::o'::a::b::c::d::e::f::i1::i2::i3::i4::a'::b'::c'::d'::e'::f'::j1::j2::j3::j4::l).toArray⟩:=⟨_,rfl⟩
 have hz:s.size=l.length+28:=by rw[hS,gL];simp
 have O1:Hid (∀u:fV,f_ Vh 102 #[.string (s.extract 6 8)] u fun ee w'=>ee=.returned (Vb Vg (256*(o.toNat:Int)+(o'.toNat:Int)))/\w'=u):=gu (fun u=>by
  have e1:s.extract 6 8=⟨#[o,o']⟩:=by rw[hS];apply aC;rw[az];apply aJ;simp
  rw[e1]
  have q:=iE ⟨#[o,o']⟩ u (show 2<=4 by omega)
  rw[show jI (⟨#[o,o']⟩:ByteArray).data.toList=256*(o.toNat:Int)+(o'.toNat:Int)from by simp[jI]]at q
  exact q)
 have e6:(s.extract 0 6).toList=[h1,h2,h3,h4,h5,h6]:=by
  rw[hS,iX,Vw];rfl
 obtain⟨x,hx⟩:∃x,x=256*(o.toNat:Int)+(o'.toNat:Int):=⟨_,rfl⟩
 have hx0:0<=x/\x<=65535:=by have p1:=o.toNat_lt;have p2:=o'.toNat_lt;omega
 obtain⟨hx1,hx2⟩:=hx0
 rw[<-hx]at O1
 have k6:(6:Int)<=(s.size:Int):=by omega
 have k8:(8:Int)<=(s.size:Int):=by omega
 have k14:(14:Int)<=(s.size:Int):=by omega
 have k18:(18:Int)<=(s.size:Int):=by omega
 have k24:(24:Int)<=(s.size:Int):=by omega
 have k28:(28:Int)<=(s.size:Int):=by omega
 have k28': ¬(s.size:Int)<28:=by omega
 have hmx:(s.size:Int)<=9223372036854775807:=by omega
 have hq:((s.extract 0 6).toList==[0,1,8,0,6,4])=true:=by rw[e6];exact hh
 rw[<-hx]at ho
 have ho1: ¬x<1:=by omega
 clear hh e6
 rw[<-hS]
 clear hS hz hx
 go_enter func66,ntmps66
 go_wp2_with fail
 refine(O1 _).mono ?_
 rintro ee w1 ⟨rfl,rfl⟩
 go_wp2
 exact Vl (v:=.tuple #[.agg zA_,Vb Vg 2]) (by simp[results,results66,go_sem]) rfl ⟨rfl,(R9 _ _).alloc (ai _) _⟩
theorem kX(a b c d:UInt8)(w:fV):
  f_ Vh 103 #[.string ⟨#[a,b,c,d]⟩] w fun ee w'=>ee=.returned (Vb Vf (16777216*(a.toNat:Int)+65536*(b.toNat:Int)+256*(c.toNat:Int)+(d.toNat:Int)))/\w'=w:=by
 have q:=iE ⟨#[a,b,c,d]⟩ w (show 4<=4 by omega)
 have e1:jI (⟨#[a,b,c,d]⟩:ByteArray).data.toList=16777216*(a.toNat:Int)+65536*(b.toNat:Int)+256*(c.toNat:Int)+(d.toNat:Int):=by simp[jI];omega
 rw[e1]at q
 have ha:=a.toNat_lt;have hb:=b.toNat_lt;have hc:=c.toNat_lt;have hd:=d.toNat_lt
 obtain⟨x,hx⟩:∃x,x=16777216*(a.toNat:Int)+65536*(b.toNat:Int)+256*(c.toNat:Int)+(d.toNat:Int):=⟨_,rfl⟩
 rw[<-hx]at q ⊢
 have hx0:0<=x:=by omega
 have hx1:x<=4294967295:=by omega
 have Q:=gu q
 clear q e1 hx ha hb hc hd
 go_enter func103,ntmps103
 go_wp2_with fail
 refine Q.mono ?_
 rintro ee w1 ⟨rfl,rfl⟩
 go_wp2
 go_ret
 exact⟨rfl,rfl⟩
end Rr
end Go.Proofs.YtbhbbeebncmaiaaGreatDoor
