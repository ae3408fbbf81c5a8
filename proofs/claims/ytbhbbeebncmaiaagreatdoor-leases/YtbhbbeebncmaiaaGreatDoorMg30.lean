import Derived.Test.YtbhbbeebncmaiaaGreatDoorMg03
import Derived.Test.YtbhbbeebncmaiaaGreatDoorMg08
import Derived.Test.YtbhbbeebncmaiaaGreatDoorMg24
import Derived.Test.YtbhbbeebncmaiaaGreatDoorMg28
import Derived.Laws.Rows
import Derived.Maps.AppendAt
set_option linter.all false
set_option maxHeartbeats 2000000
set_option maxRecDepth 10000
open Go.ChangeShapes Go.WideShapes Go.ChangeAt Go.RowKit
open Go renaming World → fV, Calls → f_
open Go.RowKit renaming Below → gm
open Go.Proofs.Tryz renaming prog → Vh
open Go.Value renaming int → Vb
open Go.IntKind renaming u8 → Vd, u16 → Ve, u32 → Vf, i64 → Vg
open Go.Proofs.Tryz
namespace Go.Proofs.YtbhbbeebncmaiaaGreatDoor
namespace Uw
open Bs Rd
open gP (gD gM gI jk iP iG jE)
theorem Fz{w:fV}{g:Nat}{t:TypeId}(b0 b1 b2 b3 b4 b5 v0 v1 v2 v3 v4 v5:Value)(h:w.heap[g]?=some (.cells #[b0,b1,b2,b3,b4,b5] t (0,0))):
  ((((((w.setCell (a_ g 0) v0).setCell (a_ g 1) v1).setCell (a_ g 2) v2).setCell (a_ g 3) v3).setCell (a_ g 4) v4).setCell (a_ g 5) v5).heap[g]?=some (.cells #[v0,v1,v2,v3,v4,v5] t (0,0)):=by
 have q:=gI (gI (gI (gI (gI (gI h 0 v0) 1 v1) 2 v2) 3 v3) 4 v4) 5 v5
 simpa only[ae,ah,af]using q
theorem jf(p:Addr)(x k:Int)(older:List PanicEntry)(w:fV)(hc:w.cell? p=some (Vb Vg x))(hz:w.frozen? p=false):
  CallsD Vh 246 #[.pointer (some p)] (.panicking ({v:=.iface 58 (Vb Vg k),recovered:=false}::older)) w fun e u' w'=>
   e=.returned (.tuple #[])/\u'=.panicking ({v:=.iface 58 (Vb Vg k),recovered:=true}::older)/\w'=w.setCell p (Vb Vg k):=by
 refine VE func246 rfl fun c₀ cs hu=> ?_
 apply VV
 apply VM
 simp[wpOpsS,go_sem,recoverD,hu,ntmps246,Exit.thenS]
 refine VP ?_
 change Code.wp _ _ _ {tmps:=#[.pointer (some p),.iface 58 (Vb Vg k),.iface 58 (Vb Vg k),undef,undef,undef,undef],defers:=[]} _
 have hta:=fun u=>jE k u
 go_wp2
 exact⟨rfl,_,rfl,.tuple #[],by simp[results,results246],rfl,rfl,rfl⟩
theorem kT(p:Addr)(w:fV):
  CallsD Vh 246 #[.pointer (some p)] .returning w fun e u' w'=>e=.returned (.tuple #[])/\u'=.returning/\w'=w:=by
 refine VE func246 rfl fun c₀ cs hu=> ?_
 apply VV
 apply VM
 simp[wpOpsS,go_sem,recoverD,hu,ntmps246,Exit.thenS]
 refine VP ?_
 change Code.wp _ _ _ {tmps:=#[.pointer (some p),.nilIface,.nilIface,undef,undef,undef,undef],defers:=[]} _
 go_wp2
 cases c₀
 simp_all[bodyPostS,results,results246]
theorem blocks{w w1 W:fV}{s:ByteArray}(g:W.grownBy w1 (some (w.heap.size+1+1)))(hW:W=((w.alloc (.cells zU_ 120)).alloc (.cells #[Vb Vg 0] 58)).alloc (.cells #[.string s] 217)):
  w1.heap[w.heap.size]?=some (.cells zU_ 120 (0,0))/\w1.heap[w.heap.size+1]?=some (.cells #[Vb Vg 0] 58 (0,0)):=by
 have z2:((w.alloc (.cells zU_ 120)).alloc (.cells #[Vb Vg 0] 58)).heap.size=w.heap.size+1+1:=by simp
 have z1:(w.alloc (.cells zU_ 120)).heap.size=w.heap.size+1:=by simp
 have e0:W.heap[w.heap.size]?=some (.cells zU_ 120 (0,0)):=by
  rw[hW,Vi _ _ _ (by omega),Vi _ _ _ (by omega)];exact G8 w _
 have e1:W.heap[w.heap.size+1]?=some (.cells #[Vb Vg 0] 58 (0,0)):=by
  rw[hW,Vi _ _ _ (by omega)]
  have q:=G8 (w.alloc (.cells zU_ 120)) (.cells #[Vb Vg 0] 58)
  rw[z1]at q
  exact q
 exact⟨(g.block _ (Vj e0) (fun q=>by simp at q;omega)).trans e0,(g.block _ (Vj e1) (fun q=>by simp at q)).trans e1⟩
theorem je(s:ByteArray)(k:Int)(w:fV)
  (hR:∀u B,iL u B s.data.toList->(∀b o,b<w.heap.size->u.cell? (a_ b o)=w.cell? (a_ b o))->f_ Vh 209 #[p_ B] u fun ee w'=>ee=.panicked (iH k)/\u.grownBy w' (some B)):
  f_ Vh 208 #[.string s,.func (.func 209) #[] #[]] w fun ee w'=>ee=.returned (.tuple #[.agg zU_,Vb Vg k])/\gm w.heap.size w w':=by
 have hmf:∀(fn:Fn) (first cap:Array Value) (w:fV),(Instr.makeFunc fn first cap).run Vh w=.ok (.func fn first cap) w:=fun _ _ _ _=>rfl
 have HR:=gu hR
 clear hR
 go_enter_defers func208,ntmps208
 go_wp2_with fail
 refine(HR _ _ (iG _ _ s (by simp)) (fun b o hb=>((((R9 _ w).alloc (ai _) _).alloc (by simp) _).alloc (by simp;omega) _).cell (p:=(a_ b o)) hb)).mono ?_
 rintro ee w1 ⟨rfl,g1⟩
 obtain⟨hr,he⟩:=blocks g1 rfl
 have d0:w1.cell? (a_ w.heap.size 0)=some (Vb Ve 0):=gD hr rfl
 have d1:w1.cell? (a_ w.heap.size 1)=some (Vb Vd 0):=gD hr rfl
 have d2:w1.cell? (a_ w.heap.size 2)=some (Vb Vd 0):=gD hr rfl
 have d3:w1.cell? (a_ w.heap.size 3)=some (Vb Vf 0):=gD hr rfl
 have d4:w1.cell? (a_ w.heap.size 4)=some (Vb Vf 0):=gD hr rfl
 have d5:w1.cell? (a_ w.heap.size 5)=some (.string ⟨#[]⟩):=gD hr rfl
 have hc:=Vm he
 have hf:=Vy he
 refine VF (f:=246) (args:=#[p_ (w.heap.size+1)]) (by simp) (by simp[go_sem]) ?_
 refine(jf (a_ (w.heap.size+1) 0) 0 k [] _ hc hf).mono ?_
 rintro e u' w'' ⟨rfl,rfl,rfl⟩
 simp[Leaves,settle,results,results208,go_sem,d0,d1,d2,d3,d4,d5,hc]
 exact(jk g1 ((((R9 _ w).alloc (ai _) _).alloc (by simp) _).alloc (by simp;omega) _) (by omega)).setCell (by simp) _
theorem nK(s:ByteArray)(a0 a1 a2 a3 a4:Int)(a5:ByteArray)(w:fV)
  (hR:∀u B,iL u B s.data.toList->(∀b o,b<w.heap.size->u.cell? (a_ b o)=w.cell? (a_ b o))->f_ Vh 209 #[p_ B] u fun ee w'=>ee=.returned (.agg (rU a0 a1 a2 a3 a4 a5))/\u.grownBy w' (some B)):
  f_ Vh 208 #[.string s,.func (.func 209) #[] #[]] w fun ee w'=>ee=.returned (.tuple #[.agg (rU a0 a1 a2 a3 a4 a5),Vb Vg 0])/\gm w.heap.size w w':=by
 have hmf:∀(fn:Fn) (first cap:Array Value) (w:fV),(Instr.makeFunc fn first cap).run Vh w=.ok (.func fn first cap) w:=fun _ _ _ _=>rfl
 have HR:=gu hR
 clear hR
 go_enter_defers func208,ntmps208
 go_wp2_with fail
 refine(HR _ _ (iG _ _ s (by simp)) (fun b o hb=>((((R9 _ w).alloc (ai _) _).alloc (by simp) _).alloc (by simp;omega) _).cell (p:=(a_ b o)) hb)).mono ?_
 rintro ee w1 ⟨rfl,g1⟩
 obtain⟨hr,he⟩:=blocks g1 rfl
 have d0:w1.cell? (a_ w.heap.size 0)=some (Vb Ve 0):=gD hr rfl
 have d1:w1.cell? (a_ w.heap.size 1)=some (Vb Vd 0):=gD hr rfl
 have d2:w1.cell? (a_ w.heap.size 2)=some (Vb Vd 0):=gD hr rfl
 have d3:w1.cell? (a_ w.heap.size 3)=some (Vb Vf 0):=gD hr rfl
 have d4:w1.cell? (a_ w.heap.size 4)=some (Vb Vf 0):=gD hr rfl
 have d5:w1.cell? (a_ w.heap.size 5)=some (.string ⟨#[]⟩):=gD hr rfl
 have fr:=gM hr
 have hc:=Vm he
 have hf:=Vy he
 have HB:=gu (jk g1 ((((R9 _ w).alloc (ai _) _).alloc (by simp) _).alloc (by simp;omega) _) (by omega))
 obtain⟨U,hU⟩:∃U,U=(((((((w1.setCell (a_ w.heap.size 0) (Vb Ve a0)).setCell (a_ w.heap.size 1) (Vb Vd a1)).setCell (a_ w.heap.size 2) (Vb Vd a2)).setCell (a_ w.heap.size 3) (Vb Vf a3)).setCell (a_ w.heap.size 4) (Vb Vf a4)).setCell (a_ w.heap.size 5) (.string a5)).setCell (a_ (w.heap.size+1) 0) (Vb Vg 0)):=⟨_,rfl⟩
 have hu:U.heap[w.heap.size]?=some (.cells (rU a0 a1 a2 a3 a4 a5) 120 (0,0)):=by
  rw[hU,R8 _ _ _ _ (by simp)]
  exact Fz _ _ _ _ _ _ _ _ _ _ _ _ hr
 have u0:U.cell? (a_ w.heap.size 0)=some (Vb Ve a0):=gD hu rfl
 have u1:U.cell? (a_ w.heap.size 1)=some (Vb Vd a1):=gD hu rfl
 have u2:U.cell? (a_ w.heap.size 2)=some (Vb Vd a2):=gD hu rfl
 have u3:U.cell? (a_ w.heap.size 3)=some (Vb Vf a3):=gD hu rfl
 have u4:U.cell? (a_ w.heap.size 4)=some (Vb Vf a4):=gD hu rfl
 have u5:U.cell? (a_ w.heap.size 5)=some (.string a5):=gD hu rfl
 have hv:U.heap[w.heap.size+1]?=some (.cells #[Vb Vg 0] 58 (0,0)):=by
  rw[hU]
  refine VR (v:=Vb Vg 0) ?_
  rw[R8 _ _ _ _ (by simp),R8 _ _ _ _ (by simp),R8 _ _ _ _ (by simp),R8 _ _ _ _ (by simp),R8 _ _ _ _ (by simp),R8 _ _ _ _ (by simp)]
  exact he
 have HBU:Hid (gm w.heap.size w U):=by
  show gm w.heap.size w U
  rw[hU]
  refine VT ?_ (by simp) _
  iterate 6 refine iP ?_
  exact HB
 have uv:=Vm hv
 have HU:=gu hU
 clear g1 hr he hu hv hU
 go_wp2
 rw[<-gB HU]
 clear HU d0 d1 d2 d3 d4 d5 hc hf fr
 refine VF (f:=246) (args:=#[p_ (w.heap.size+1)]) (by simp) (by simp[go_sem]) ?_
 refine(kT (a_ (w.heap.size+1) 0) _).mono ?_
 rintro e u' w'' ⟨rfl,rfl,rfl⟩
 simp[Leaves,settle,results,results208,go_sem,u0,u1,u2,u3,u4,u5,uv]
 exact HBU
theorem iU(s:ByteArray)(a0 a1 a2 a3 a4:Int)(a5:ByteArray)(k:Int)(w:fV)
  (hR:∀u:fV,f_ Vh 208 #[.string s,.func (.func 209) #[] #[]] u fun ee w'=>ee=.returned (.tuple #[.agg (rU a0 a1 a2 a3 a4 a5),Vb Vg k])/\gm u.heap.size u w'):
  f_ Vh 173 #[.string s] w fun ee w'=>ee=.returned (.tuple #[.agg (rU a0 a1 a2 a3 a4 a5),Vb Vg k])/\gm w.heap.size w w':=by
 have HR:=gu hR
 clear hR
 go_enter func173,ntmps173
 go_wp2_with fail
 refine(HR _).mono ?_
 rintro ee w1 ⟨rfl,hb⟩
 have hr:w1.heap[w.heap.size]?=some (.cells zU_ 120 (0,0)):=(hb.block _ (by simp)).trans (G8 w _)
 have d0:w1.cell? (a_ w.heap.size 0)=some (Vb Ve 0):=gD hr rfl
 have d1:w1.cell? (a_ w.heap.size 1)=some (Vb Vd 0):=gD hr rfl
 have d2:w1.cell? (a_ w.heap.size 2)=some (Vb Vd 0):=gD hr rfl
 have d3:w1.cell? (a_ w.heap.size 3)=some (Vb Vf 0):=gD hr rfl
 have d4:w1.cell? (a_ w.heap.size 4)=some (Vb Vf 0):=gD hr rfl
 have d5:w1.cell? (a_ w.heap.size 5)=some (.string ⟨#[]⟩):=gD hr rfl
 have fr:=gM hr
 have HB:Hid (gm w.heap.size w w1):=gu (((R9 _ w).alloc (ai _) _).trans (hb.mono (by simp)))
 obtain⟨U,hU⟩:∃U,U=((((((w1.setCell (a_ w.heap.size 0) (Vb Ve a0)).setCell (a_ w.heap.size 1) (Vb Vd a1)).setCell (a_ w.heap.size 2) (Vb Vd a2)).setCell (a_ w.heap.size 3) (Vb Vf a3)).setCell (a_ w.heap.size 4) (Vb Vf a4)).setCell (a_ w.heap.size 5) (.string a5)):=⟨_,rfl⟩
 have hu:U.heap[w.heap.size]?=some (.cells (rU a0 a1 a2 a3 a4 a5) 120 (0,0)):=by
  rw[hU]
  exact Fz _ _ _ _ _ _ _ _ _ _ _ _ hr
 have u0:U.cell? (a_ w.heap.size 0)=some (Vb Ve a0):=gD hu rfl
 have u1:U.cell? (a_ w.heap.size 1)=some (Vb Vd a1):=gD hu rfl
 have u2:U.cell? (a_ w.heap.size 2)=some (Vb Vd a2):=gD hu rfl
 have u3:U.cell? (a_ w.heap.size 3)=some (Vb Vf a3):=gD hu rfl
 have u4:U.cell? (a_ w.heap.size 4)=some (Vb Vf a4):=gD hu rfl
 have u5:U.cell? (a_ w.heap.size 5)=some (.string a5):=gD hu rfl
 have HBU:Hid (gm w.heap.size w U):=by
  show gm w.heap.size w U
  rw[hU]
  iterate 6 refine iP ?_
  exact HB
 have HU:=gu hU
 clear hr hu hU hb HR
 go_wp2
 rw[<-gB HU]
 clear HU d0 d1 d2 d3 d4 d5 fr
 exact Vl (v:=.tuple #[.agg (rU a0 a1 a2 a3 a4 a5),Vb Vg k]) (by simp[results,results173,go_sem,u0,u1,u2,u3,u4,u5]) rfl ⟨rfl,HBU⟩
end Uw
namespace Uy
open Bs Rd Lt
open Ip (lS uX)
open Go.Proofs.YtbhbbeebncmaiaaGreatDoor.Uw
theorem zX(s:ByteArray)(L:List UInt8)(hL:s.data.toList=L)(w:fV)(hm:s.size<=262144):
  f_ Vh 173 #[.string s] w fun ee w'=>ee=.returned (.tuple #[.agg (rU (xX L (w2 L 4)) (xX L (bt L 8)) (xX L (bt L 9)) (xX L (w4 L 12)) (xX L (w4 L 16)) (AA L)),Vb Vg (Co L)])/\gm w.heap.size w w':=by
 have hl:=jc s
 rw[hL]at hl
 have E:∀k,Co L=k->k≠0->(∀u:fV,f_ Vh 173 #[.string s] u fun ee w'=>ee=.returned (.tuple #[.agg zU_,Vb Vg k])/\gm u.heap.size u w')->
   f_ Vh 173 #[.string s] w fun ee w'=>ee=.returned (.tuple #[.agg (rU (xX L (w2 L 4)) (xX L (bt L 8)) (xX L (bt L 9)) (xX L (w4 L 12)) (xX L (w4 L 16)) (AA L)),Vb Vg (Co L)])/\gm w.heap.size w w':=by
  intro k h0 h1 h2
  rw[nJ h0 h1,nJ h0 h1,nJ h0 h1,nJ h0 h1,nJ h0 h1,EN h0 h1,h0]
  exact h2 w
 by_cases hn:L.length<20
 ·exact E 1 (by unfold Co;rw[ay hn]) (by decide) (fun u=>iU s 0 0 0 0 0 ⟨#[]⟩ 1 u (fun u=>je s 1 u (fun u B h _=>by rw[hL]at h;exact zo B L u h hn)))
 ·obtain⟨a0,a1,a2,a3,a4,a5,a6,a7,a8,a9,a10,a11,a12,a13,a14,a15,a16,a17,a18,a19,r,hlist⟩:=twenty L (by omega)
  have heta:=mQ s
  rw[hL]at heta
  have b0:bt L 0=(a0.toNat:Int):=by rw[hlist];rfl
  have b2:w2 L 2=(256*(a2.toNat:Int)+(a3.toNat:Int)):=by rw[hlist];rfl
  have b6:w2 L 6=(256*(a6.toNat:Int)+(a7.toNat:Int)):=by rw[hlist];rfl
  have b8:bt L 8=(a8.toNat:Int):=by rw[hlist];rfl
  have tk:L.take 20=[a0,a1,a2,a3,a4,a5,a6,a7,a8,a9,a10,a11,a12,a13,a14,a15,a16,a17,a18,a19]:=by rw[hlist];rfl
  have dr:L.drop 20=r:=by rw[hlist];rfl
  have ln:L.length=r.length+20:=by rw[hlist];simp
  have hml:(a0::a1::a2::a3::a4::a5::a6::a7::a8::a9::a10::a11::a12::a13::a14::a15::a16::a17::a18::a19::r).length<=maxLen:=by rw[<-hlist];unfold maxLen;omega
  have p0:=a0.toNat_lt
  have hK:Co L=if bt L 0/16≠4∨bt L 0%16<5 then 2 else if 5<bt L 0%16 then 4
    else if w2 L 2<20 then 2 else if((L.length:Nat):Int)<w2 L 2 then 1 else if lS (L.take 20)≠0 then 6
    else if 32768<=w2 L 6∨bt L 8=0 then 2 else if w2 L 6%16384≠0 then 5 else 0:=by unfold Co;rw[ax hn]
  rw[b0,b2,b6,b8,tk,ln]at hK
  by_cases h1:a0.toNat/16=4
  ·by_cases h2:a0.toNat%16<5
   ·rw[ay (by omega)]at hK
    exact E 2 hK (by decide) (fun u=>iU s 0 0 0 0 0 ⟨#[]⟩ 2 u (fun u=>je s 2 u (fun u B h _=>by rw[hL,hlist]at h;exact zw B a0 a1 a2 a3 a4 a5 a6 a7 a8 a9 a10 a11 a12 a13 a14 a15 a16 a17 a18 a19 r u h hml 2 (fun u hu=>Gj B _ _ _ u hu hml h1 h2))))
   ·rw[ax (by omega)]at hK
    by_cases h3:5<a0.toNat%16
    ·rw[ay (by omega)]at hK
     exact E 4 hK (by decide) (fun u=>iU s 0 0 0 0 0 ⟨#[]⟩ 4 u (fun u=>je s 4 u (fun u B h _=>by rw[hL,hlist]at h;exact zw B a0 a1 a2 a3 a4 a5 a6 a7 a8 a9 a10 a11 a12 a13 a14 a15 a16 a17 a18 a19 r u h hml 4 (fun u hu=>F7 B _ _ _ u hu hml h1 h3))))
    ·have h69:a0.toNat=69:=by omega
     rw[ax (by omega)]at hK
     by_cases h4:(256*(a2.toNat:Int)+(a3.toNat:Int))<20
     ·rw[ay h4]at hK
      exact E 2 hK (by decide) (fun u=>iU s 0 0 0 0 0 ⟨#[]⟩ 2 u (fun u=>je s 2 u (fun u B h _=>by rw[hL,hlist]at h;exact BS B a0 a1 a2 a3 a4 a5 a6 a7 a8 a9 a10 a11 a12 a13 a14 a15 a16 a17 a18 a19 r u h hml h69 2 (fun u hu=>yn B _ _ _ _ _ u hu (by simp only[aj]at hml ⊢;unfold maxLen at hml ⊢;omega) (by omega)))))
     ·rw[ax h4]at hK
      by_cases h5:((r.length+20:Nat):Int)<(256*(a2.toNat:Int)+(a3.toNat:Int))
      ·rw[ay h5]at hK
       exact E 1 hK (by decide) (fun u=>iU s 0 0 0 0 0 ⟨#[]⟩ 1 u (fun u=>je s 1 u (fun u B h _=>by rw[hL,hlist]at h;exact BS B a0 a1 a2 a3 a4 a5 a6 a7 a8 a9 a10 a11 a12 a13 a14 a15 a16 a17 a18 a19 r u h hml h69 1 (fun u hu=>wo B _ _ _ _ _ u hu (by simp only[aj]at hml ⊢;unfold maxLen at hml ⊢;omega) (by omega) (by omega)))))
      ·rw[ax h5]at hK
       obtain⟨k,hk⟩:∃k:Nat,(256*(a2.toNat:Int)+(a3.toNat:Int))=20+(k:Int):=⟨((256*(a2.toNat:Int)+(a3.toNat:Int))-20).toNat,by omega⟩
       have hkr:k<=r.length:=by omega
       by_cases h6:lS [a0,a1,a2,a3,a4,a5,a6,a7,a8,a9,a10,a11,a12,a13,a14,a15,a16,a17,a18,a19]=0
       ·rw[ax (fun q=>q h6)]at hK
        by_cases h7:32768<=(256*(a6.toNat:Int)+(a7.toNat:Int))
        ·rw[ay (au h7)]at hK
         exact E 2 hK (by decide) (fun u=>iU s 0 0 0 0 0 ⟨#[]⟩ 2 u (fun u=>je s 2 u (fun u B h _=>by rw[hL,hlist]at h;exact CR B a0 a1 a2 a3 a4 a5 a6 a7 a8 a9 a10 a11 a12 a13 a14 a15 a16 a17 a18 a19 r u h hml h69 k hk hkr (by omega) h6 (fun q=>h7|>fun h7=>by rw[wL]at q;omega))))
        ·by_cases h8:(a8.toNat:Int)=0
         ·rw[ay (aA h8)]at hK
          exact E 2 hK (by decide) (fun u=>iU s 0 0 0 0 0 ⟨#[]⟩ 2 u (fun u=>je s 2 u (fun u B h _=>by rw[hL,hlist]at h;exact GG B a0 a1 a2 a3 a4 a5 a6 a7 a8 a9 a10 a11 a12 a13 a14 a15 a16 a17 a18 a19 r u h hml h69 k hk hkr (by omega) h6 ((wL _ _).2 (by omega)) h8)))
         ·rw[ax (by omega)]at hK
          by_cases h9:(256*(a6.toNat:Int)+(a7.toNat:Int))%16384=0
          ·rw[ax (fun q=>q h9)]at hK
           have e5:AA L=⟨(r.take k).toArray⟩:=by rw[I_ hK,dr,b2,hk];congr 3;omega
           rw[pX hK,pX hK,pX hK,pX hK,pX hK,e5,hK]
           have b4:w2 L 4=(256*(a4.toNat:Int)+(a5.toNat:Int)):=by rw[hlist];rfl
           have b9:bt L 9=(a9.toNat:Int):=by rw[hlist];rfl
           have b12:w4 L 12=(16777216*(a12.toNat:Int)+65536*(a13.toNat:Int)+256*(a14.toNat:Int)+(a15.toNat:Int)):=by rw[hlist];rfl
           have b16:w4 L 16=(16777216*(a16.toNat:Int)+65536*(a17.toNat:Int)+256*(a18.toNat:Int)+(a19.toNat:Int)):=by rw[hlist];rfl
           rw[b4,b8,b9,b12,b16]
           refine iU s _ _ _ _ _ _ 0 w (fun u=>nK s _ _ _ _ _ _ u (fun u B h _=> ?_))
           rw[hL,hlist]at h
           exact NT B a0 a1 a2 a3 a4 a5 a6 a7 a8 a9 a10 a11 a12 a13 a14 a15 a16 a17 a18 a19 r u h hml h69 k hk hkr (by omega) h6 ((wL _ _).2 (by omega)) h8 ((FQ _ _).2 h9)
          ·rw[ay h9]at hK
           exact E 5 hK (by decide) (fun u=>iU s 0 0 0 0 0 ⟨#[]⟩ 5 u (fun u=>je s 5 u (fun u B h _=>by rw[hL,hlist]at h;exact C8 B a0 a1 a2 a3 a4 a5 a6 a7 a8 a9 a10 a11 a12 a13 a14 a15 a16 a17 a18 a19 r u h hml h69 k hk hkr (by omega) h6 ((wL _ _).2 (by omega)) h8 (fun q=>h9 ((FQ _ _).1 q)))))
       ·rw[ay h6]at hK
        exact E 6 hK (by decide) (fun u=>iU s 0 0 0 0 0 ⟨#[]⟩ 6 u (fun u=>je s 6 u (fun u B h _=>by rw[hL,hlist]at h;exact IU B a0 a1 a2 a3 a4 a5 a6 a7 a8 a9 a10 a11 a12 a13 a14 a15 a16 a17 a18 a19 r u h hml h69 k hk hkr (by omega) h6)))
  ·rw[ay (by omega)]at hK
   exact E 2 hK (by decide) (fun u=>iU s 0 0 0 0 0 ⟨#[]⟩ 2 u (fun u=>je s 2 u (fun u B h _=>by rw[hL,hlist]at h;exact zw B a0 a1 a2 a3 a4 a5 a6 a7 a8 a9 a10 a11 a12 a13 a14 a15 a16 a17 a18 a19 r u h hml 2 (fun u hu=>Eg B _ _ _ u hu hml h1))))
end Uy
namespace Rr
open Bs Rd
open Ip (lS uX)
theorem below_drewN{N:Nat}{a w:fV}(h:gm N a w)(n:Nat):gm N a (w.drewN n):=⟨h.os,h.tape,h.output,h.size,h.block⟩
theorem zo(s:ByteArray)(w:fV)(hs:s.size<20):
  f_ Vh 68 #[.string s] w fun ee w'=>ee=.returned (.tuple #[.agg zU_,Vb Vg 1])/\gm w.heap.size w w':=by
 go_enter func68,ntmps68
 go_wp2
 exact Vl (v:=.tuple #[.agg zU_,Vb Vg 1]) (by simp[results,results68,go_sem]) rfl ⟨rfl,(R9 _ _).alloc (ai _) _⟩
end Rr
namespace Js
open Bs
variable{w0:fV} {P:Nat→Prop} {w w':fV} {B Q:Nat} {m m':Mc}
def strs(q:List ByteArray):List Value:=q.map Value.string
theorem pG(q:List ByteArray):(strs q).length=q.length:=by simp[strs]
def Mc.put(m:Mc)(s:ByteArray):Mc:=if m.cq.length<m.rx then {m with cq:=m.cq++ [s]}else m
theorem OV(h:Mx w0 P w B m)(s:ByteArray)(hs:s.size<=1099511627776):f_ Vh 34 #[p_ B,.string s] w fun ee w'=>ee=.returned (.bool (decide (m.cq.length<m.rx)))/\Mx w0 P w' B (m.put s):=by
 have HM:=gu h
 have HC:=fun u=>gu (Rd.uD s u hs)
 clear h hs
 go_enter func34,ntmps34
 go_wp2
 go_region_held3 (fun u=>True) (trivial)
  (first|(go_at_call 49;refine(gB (HC _)).mono ?_;rintro ee u ⟨rfl,hb⟩;have HU:=gu (HM.drew.below hb))|(go_at_call 51;refine(Ko HU _).mono ?_;rintro ee u2 ⟨rfl,hu2⟩;have HU2:=gu hu2))
 clear hu2 hb
 go_wp2
 go_ret
 exact⟨rfl,HU2⟩
theorem yw(h:Bx w0 P w Q B m)(s:ByteArray)(hs:s.size<=1099511627776):f_ Vh 17 #[p_ Q,.string s] w fun ee w'=>ee=.returned (.bool (decide (m.cq.length<m.rx)))/\Bx w0 P w' Q B (m.put s):=by
 have HM:=gu (kP h)
 have HT:=gu (OV h.mx.base s hs)
 have HB:=gu h
 clear h
 go_enter func17,ntmps17
 go_wp2_with fail
 refine HM.mono ?_
 rintro ee u ⟨rfl,rfl⟩
 go_wp2_with fail
 refine HT.mono ?_
 rintro ee u ⟨rfl,hu⟩
 have HU:=gu (HB.next hu)
 clear hu HT HM HB
 go_wp2
 go_ret
 exact⟨rfl,HU⟩
def polls(n:Int)(l:Nat):Nat:=min n.toNat l
end Js
namespace Ip
open Bs Rb Wt rO
theorem kz(id ttl pr fr ta:Int)(load:ByteArray)(w:fV)(hi:0<=id/\id<=65535)(ht:0<=ttl/\ttl<=255)(hp:0<=pr/\pr<=255)(hf:0<=fr/\fr<=4294967295)(ho:0<=ta/\ta<=4294967295)(h3:load.size<=262144):
  f_ Vh 137 #[.agg (rU id ttl pr fr ta load)] w fun ee w'=>
   ee=.returned (.tuple #[.string (Db id ttl pr fr ta load),Vb Vg (I8 ttl load)])/\gm w.heap.size w w':=by
 by_cases h0:ttl=0
 ·have e1:Db id ttl pr fr ta load=⟨#[]⟩:=by simp[Db,h0]
  have e2:I8 ttl load=2:=by simp[I8,h0]
  rw[e1,e2]
  subst h0
  go_enter func137,ntmps137
  go_wp2
  go_ret2
  exact⟨rfl,(R9 _ _).alloc (ai _) _⟩
 ·have hne:(ttl==0)=false:=by simpa using h0
  by_cases hl:load.size<=1480
  ·have e1:Db id ttl pr fr ta load=⟨(Ls id ttl pr fr ta load).toArray⟩:=by simp[Db,h0,hl]
   have e2:I8 ttl load=0:=by simp[I8,h0,hl]
   rw[e1,e2]
   exact Am id ttl pr fr ta load w hi (by omega) hp hf ho hl
  ·have e1:Db id ttl pr fr ta load=⟨#[]⟩:=by simp[Db,h0,hl]
   have e2:I8 ttl load=7:=by simp[I8,h0,hl]
   rw[e1,e2]
   have hgt:(1480:Int)<(load.size:Int):=by omega
   clear e1 e2 hl h0
   go_enter func137,ntmps137
   go_wp2
   go_ret2
   exact⟨rfl,(R9 _ _).alloc (ai _) _⟩
end Ip
namespace yJ
open Bs Rd Dh
open gP (gD jE jk)
theorem JO(s:ByteArray)(w:fV)(hl:s.data.toList.length<4)(hs:s.data.toList.length<=maxLen):
  f_ Vh 282 #[.string s,.func (.func 245) #[] #[]] w fun ee w'=>ee=.returned (.tuple #[Vb Vf 0,Vb Vg 1])/\gm w.heap.size w w':=by
 have hmf:∀(fn:Fn) (first cap:Array Value) (w:fV),(Instr.makeFunc fn first cap).run Vh w=.ok (.func fn first cap) w:=fun _ _ _ _=>rfl
 have HR:=gu (yA (w.heap.size+1) s.data.toList ((w.alloc (.cells #[Vb Vg 0] 58)).alloc (.cells #[.string s] 217)) (iG _ _ s (by simp)) hl hs)
 clear hl hs
 go_enter_defers func282,ntmps282
 go_wp2_with fail
 refine HR.mono ?_
 rintro ee w1 ⟨rfl,g1⟩
 have he:=yY g1 rfl
 have hc:=Vm he
 have hf:=Vy he
 refine VF (f:=308) (args:=#[p_ w.heap.size]) (by simp) (by simp[go_sem]) ?_
 refine(qf (a_ w.heap.size 0) 0 1 [] _ hc hf).mono ?_
 rintro e u' w'' ⟨rfl,rfl,rfl⟩
 simp[Leaves,settle,results,results282,go_sem,hc]
 exact(jk g1 (((R9 _ w).alloc (ai _) _).alloc (by simp) _) (by omega)).setCell (by simp) _
theorem Ld(s:ByteArray)(a b c d:UInt8)(w:fV)(r:List UInt8)(hl:s.data.toList=a::b::c::d::r)(hs:(a::b::c::d::r).length<=maxLen):
  f_ Vh 282 #[.string s,.func (.func 245) #[] #[]] w fun ee w'=>ee=.returned (.tuple #[Vb Vf (16777216*(a.toNat:Int)+65536*(b.toNat:Int)+256*(c.toNat:Int)+(d.toNat:Int)),Vb Vg 0])/\gm w.heap.size w w':=by
 have hmf:∀(fn:Fn) (first cap:Array Value) (w:fV),(Instr.makeFunc fn first cap).run Vh w=.ok (.func fn first cap) w:=fun _ _ _ _=>rfl
 have HR:=gu (jg (w.heap.size+1) a b c d r ((w.alloc (.cells #[Vb Vg 0] 58)).alloc (.cells #[.string s] 217)) (by have q:=iG (w.alloc (.cells #[Vb Vg 0] 58)) (w.heap.size+1) s (by simp);rw[hl]at q;exact q) hs)
 obtain⟨v,hv⟩:∃v:Int,v=(16777216*(a.toNat:Int)+65536*(b.toNat:Int)+256*(c.toNat:Int)+(d.toNat:Int)):=⟨_,rfl⟩
 rw[<-hv]at HR ⊢
 clear hl hs hv
 go_enter_defers func282,ntmps282
 go_wp2_with fail
 refine HR.mono ?_
 rintro ee w1 ⟨rfl,_,g1⟩
 have he:=yY g1 rfl
 have hc:=Vm he
 have hf:=Vy he
 have HB:=gu (jk g1 (((R9 _ w).alloc (ai _) _).alloc (by simp) _) (by omega))
 have hs2:=Vm (VR (u:=Vb Vg 0) he)
 clear g1 he HR
 go_wp2
 refine VF (f:=308) (args:=#[p_ w.heap.size]) (by simp) (by simp[go_sem]) ?_
 refine(yG (a_ w.heap.size 0) _).mono ?_
 rintro e u' w'' ⟨rfl,rfl,rfl⟩
 simp[Leaves,settle,results,results282,go_sem,hs2]
 exact HB.setCell (by simp) _
def j6(l:List UInt8):Int:=match l with
 |a::b::c::d::_=>16777216*(a.toNat:Int)+65536*(b.toNat:Int)+256*(c.toNat:Int)+(d.toNat:Int)
 |_=>0
theorem I6(s:ByteArray)(w:fV)(hs:s.data.toList.length<=maxLen):∃k:Int,f_ Vh 282 #[.string s,.func (.func 245) #[] #[]] w fun ee w'=>ee=.returned (.tuple #[Vb Vf (j6 s.data.toList),Vb Vg k])/\gm w.heap.size w w':=by
 by_cases hn:s.data.toList.length<4
 ·have e:j6 s.data.toList=0:=by
   unfold j6
   split
   ·rename_i h;rw[h]at hn;simp at hn;omega
   ·rfl
  rw[e]
  exact⟨1,JO s w hn hs⟩
 ·obtain⟨a,b,c,d,r,hr⟩:∃a b c d r,s.data.toList=a::b::c::d::r:=by
   match s.data.toList,hn with
   |a::b::c::d::r,_=>exact⟨a,b,c,d,r,rfl⟩
   |[],h=>exact absurd (by simp) h
   |[_],h=>exact absurd (by simp) h
   |[_,_],h=>exact absurd (by simp) h
   |[_,_,_],h=>exact absurd (by simp) h
  have e:j6 s.data.toList=16777216*(a.toNat:Int)+65536*(b.toNat:Int)+256*(c.toNat:Int)+(d.toNat:Int):=by rw[hr];rfl
  rw[e]
  exact⟨0,Ld s a b c d w r hr (by rw[<-hr];exact hs)⟩
theorem J3(a0:Option Addr)(cap:Nat)(os:gU)(cd:UInt8)(w:fV)(hA:At w a0 os)(hl:heavy os<=268435456)(hd:(data os cd).length<=maxLen):
  f_ Vh 322 #[.slice a0 os.length cap,Vb Vd cd.toNat] w fun ee w'=>ee=.returned (Vb Vf (j6 (data os cd)))/\gm w.heap.size w w':=by
 have HD:=gu (nN a0 cap os cd w hA hl)
 have HR:=fun(u:fV)=>gu (I6 ⟨(data os cd).toArray⟩ u (by simpa using hd))
 obtain⟨v,hv⟩:∃v:Int,v=j6 (data os cd):=⟨_,rfl⟩
 obtain⟨s,hs⟩:∃s:ByteArray,s=⟨(data os cd).toArray⟩:=⟨_,rfl⟩
 have hv2:j6 s.data.toList=v:=by rw[hs,hv]
 rw[<-hs]at HR HD
 rw[<-hv]
 simp only[hv2]at HR
 generalize has os cd=hb at HD
 clear hA hl hd hv hs hv2
 go_enter func322,ntmps322
 go_wp2_with fail
 refine HD.mono ?_
 rintro ee u1 ⟨rfl,hb1⟩
 have HB1:=gu hb1
 obtain⟨k,hk⟩:=gB (HR u1)
 have HK:=gu hk
 clear hb1 HD HR hk
 go_wp2_with fail
 refine HK.mono ?_
 rintro ee u2 ⟨rfl,hb2⟩
 have HB2:=gu (HB1.trans (hb2.mono HB1.size))
 clear hb2 HK
 go_wp2
 go_ret
 exact⟨rfl,HB2⟩
end yJ
namespace yJ
open Bs Rd Dh
def four(l:List UInt8):Option Int:=match l with
 |[a,b,c,d]=>some (16777216*(a.toNat:Int)+65536*(b.toNat:Int)+256*(c.toNat:Int)+(d.toNat:Int))
 |_=>none
theorem xQ{l:List UInt8}(h:l.length≠4):four l=none:=by
 unfold four
 split
 ·rename_i e;simp at h
 ·rfl
theorem xq{l:List UInt8}(h:l.length=4):∃a b c d,l=[a,b,c,d]/\four l=some (16777216*(a.toNat:Int)+65536*(b.toNat:Int)+256*(c.toNat:Int)+(d.toNat:Int)):=by
 match l,h with
 |[a,b,c,d],_=>exact⟨a,b,c,d,rfl,rfl⟩
theorem uw{l:List UInt8}{x:Int}(h:four l=some x):0<=x/\x<=4294967295:=by
 unfold four at h
 split at h
 ·rename_i a b c d
  have ha:=fF a
  have hb:=fF b
  have hc:=fF c
  have hd:=fF d
  have e:=aU h
  omega
 ·cases h
theorem ED(a0:Option Addr)(cap:Nat)(os:gU)(cd:UInt8)(w:fV)(hA:At w a0 os)(hl:heavy os<=268435456):
  f_ Vh 320 #[.slice a0 os.length cap,Vb Vd cd.toNat] w fun ee w'=>ee=.returned (.tuple #[Vb Vf ((four (data os cd)).getD 0),.bool (four (data os cd)).isSome])/\gm w.heap.size w w':=by
 by_cases h4:(data os cd).length=4
 ·obtain⟨a,b,c,d,e1,e2⟩:=xq h4
  rw[e2]
  exact Oq a0 cap os cd a b c d w hA hl e1
 ·rw[xQ h4]
  exact Ot a0 cap os cd w hA hl h4
theorem SV(a0:Option Addr)(cap:Nat)(os:gU)(cd:UInt8)(w:fV)(hA:At w a0 os)(hl:heavy os<=268435456):
  f_ Vh 215 #[.slice a0 os.length cap,Vb Vd cd.toNat] w fun ee w'=>ee=.returned (.tuple #[Vb Vf ((four (data os cd)).getD 0),.bool (four (data os cd)).isSome])/\gm w.heap.size w w':=by
 by_cases h4:(data os cd).length=4
 ·obtain⟨a,b,c,d,e1,e2⟩:=xq h4
  rw[e2]
  exact Je a0 cap os cd a b c d w hA hl e1
 ·rw[xQ h4]
  exact JB a0 cap os cd w hA hl h4
theorem jX(rep:Bool)(gF cl yo ne d0 d1 d2 d3 d4 d5:Int)(sa:Option Addr)(sc:Nat)(os:gU)(sv:Int)(w:fV):f_ Vh 319 #[.agg (rF rep gF cl yo ne d0 d1 d2 d3 d4 d5 sa os.length sc sv)] w fun ee w'=>ee=.returned (.slice sa os.length sc)/\gm w.heap.size w w':=by
 obtain⟨n,hn⟩:∃n,n=os.length:=⟨_,rfl⟩
 rw[<-hn]
 clear hn
 go_enter func319,ntmps319
 go_wp2
 go_ret
 exact⟨rfl,(R9 _ _).alloc (ai _) _⟩
theorem Hd(rep:Bool)(gF cl yo ne d0 d1 d2 d3 d4 d5:Int)(sa:Option Addr)(sc:Nat)(os:gU)(sv:Int)(w:fV):f_ Vh 323 #[.agg (rF rep gF cl yo ne d0 d1 d2 d3 d4 d5 sa os.length sc sv)] w fun ee w'=>ee=.returned (Vb Vf (if ne=0 then sv else ne))/\gm w.heap.size w w':=by
 obtain⟨n,hn⟩:∃n,n=os.length:=⟨_,rfl⟩
 rw[<-hn]
 clear hn
 by_cases h0:ne=0
 ·rw[ay h0]
  subst h0
  go_enter func323,ntmps323
  go_wp2
  go_ret
  exact⟨rfl,(R9 _ _).alloc (ai _) _⟩
 ·rw[ax h0]
  have h1:(ne !=0)=true:=by simpa using h0
  have h2:(ne==0)=false:=by simpa using h0
  clear h0
  go_enter func323,ntmps323
  go_wp2
  go_ret
  exact⟨rfl,(R9 _ _).alloc (ai _) _⟩
theorem Ny(rep:Bool)(gF cl yo ne d0 d1 d2 d3 d4 d5:Int)(sa:Option Addr)(sc:Nat)(os:gU)(sv:Int)(w:fV)(hA:At w sa os)(hl:heavy os<=268435456):f_ Vh 321 #[.agg (rF rep gF cl yo ne d0 d1 d2 d3 d4 d5 sa os.length sc sv)] w fun ee w'=>ee=.returned (Vb Vf ((four (data os 1)).getD 4294967295))/\gm w.heap.size w w':=by
 have hb0:gm w.heap.size w (w.alloc (.cells (rF rep gF cl yo ne d0 d1 d2 d3 d4 d5 sa os.length sc sv) 262)):=(R9 _ _).alloc (ai _) _
 have HO:=gu (jX rep gF cl yo ne d0 d1 d2 d3 d4 d5 sa sc os sv (w.alloc (.cells (rF rep gF cl yo ne d0 d1 d2 d3 d4 d5 sa os.length sc sv) 262)))
 have HB0:=gu hb0
 have HAD:Hid (∀u,gm w.heap.size w u->f_ Vh 215 #[.slice sa os.length sc,Vb Vd 1] u fun ee w'=>ee=.returned (.tuple #[Vb Vf ((four (data os 1)).getD 0),.bool (four (data os 1)).isSome])/\gm u.heap.size u w'):=gu (fun u hb=>SV sa sc os 1 u (hA.below hb (ai _)) hl)
 obtain⟨n,hn⟩:∃n,n=os.length:=⟨_,rfl⟩
 rw[<-hn]at HO HAD HB0 ⊢
 clear hn hA hl hb0
 cases hf:four (data os 1)with
 |none=>
  rw[hf]at HAD
  go_enter func321,ntmps321
  go_wp2_with fail
  refine HO.mono ?_
  rintro ee u1 ⟨rfl,hb1⟩
  have HB1:=gu (HB0.trans (hb1.mono HB0.size))
  clear hb1 HO
  go_wp2_with fail
  refine(HAD _ HB1).mono ?_
  rintro ee u2 ⟨rfl,hb2⟩
  have HB2:=gu (HB1.trans (hb2.mono HB1.size))
  clear hb2 HAD
  go_wp2
  go_ret
  exact⟨rfl,HB2⟩
 |some x=>
  rw[hf]at HAD
  go_enter func321,ntmps321
  go_wp2_with fail
  refine HO.mono ?_
  rintro ee u1 ⟨rfl,hb1⟩
  have HB1:=gu (HB0.trans (hb1.mono HB0.size))
  clear hb1 HO
  go_wp2_with fail
  refine(HAD _ HB1).mono ?_
  rintro ee u2 ⟨rfl,hb2⟩
  have HB2:=gu (HB1.trans (hb2.mono HB1.size))
  clear hb2 HAD
  go_wp2
  go_ret
  exact⟨rfl,HB2⟩
def sJ(x y:Option Int)(t:Int):Int×Int:=match x,y with
 |some x,some y=>if x<y/\y<t then(x,y)else(t/2,t/8*7)
 |_,_=>(t/2,t/8*7)
theorem Nr(rep:Bool)(gF cl yo ne d0 d1 d2 d3 d4 d5:Int)(sa:Option Addr)(sc:Nat)(os:gU)(sv:Int)(t:Int)(ht:0<=t/\t<=4294967295)(w:fV)(hA:At w sa os)(hl:heavy os<=268435456):f_ Vh 324 #[.agg (rF rep gF cl yo ne d0 d1 d2 d3 d4 d5 sa os.length sc sv),Vb Vf t] w fun ee w'=>ee=.returned (.tuple #[Vb Vf (sJ (four (data os 58)) (four (data os 59)) t).1,Vb Vf (sJ (four (data os 58)) (four (data os 59)) t).2])/\gm w.heap.size w w':=by
 have hb0:gm w.heap.size w (w.alloc (.cells (rF rep gF cl yo ne d0 d1 d2 d3 d4 d5 sa os.length sc sv) 262)):=(R9 _ _).alloc (ai _) _
 have HO0:=gu (jX rep gF cl yo ne d0 d1 d2 d3 d4 d5 sa sc os sv (w.alloc (.cells (rF rep gF cl yo ne d0 d1 d2 d3 d4 d5 sa os.length sc sv) 262)))
 have HO1:Hid (∀u,f_ Vh 319 #[.agg (rF rep gF cl yo ne d0 d1 d2 d3 d4 d5 sa os.length sc sv)] u fun ee w'=>ee=.returned (.slice sa os.length sc)/\gm u.heap.size u w'):=gu (fun u=>jX rep gF cl yo ne d0 d1 d2 d3 d4 d5 sa sc os sv u)
 have HB0:=gu hb0
 have HL1:Hid (∀u,gm w.heap.size w u->f_ Vh 320 #[.slice sa os.length sc,Vb Vd 58] u fun ee w'=>ee=.returned (.tuple #[Vb Vf ((four (data os 58)).getD 0),.bool (four (data os 58)).isSome])/\gm u.heap.size u w'):=gu (fun u hb=>ED sa sc os 58 u (hA.below hb (ai _)) hl)
 have HL2:Hid (∀u,gm w.heap.size w u->f_ Vh 320 #[.slice sa os.length sc,Vb Vd 59] u fun ee w'=>ee=.returned (.tuple #[Vb Vf ((four (data os 59)).getD 0),.bool (four (data os 59)).isSome])/\gm u.heap.size u w'):=gu (fun u hb=>ED sa sc os 59 u (hA.below hb (ai _)) hl)
 obtain⟨n,hn⟩:∃n,n=os.length:=⟨_,rfl⟩
 rw[<-hn]at HO0 HO1 HL1 HL2 HB0 ⊢
 have e2:t.tdiv 2=t/2:=dG ht.1
 have e8:t.tdiv 8=t/8:=dG ht.1
 have w2:IntKind.u32.wrap (t/2)=t/2:=by rw[VU];omega
 have w8:IntKind.u32.wrap (t/8)=t/8:=by rw[VU];omega
 have w7:IntKind.u32.wrap (t/8*7)=t/8*7:=by rw[VU];omega
 clear hn hA hl hb0 ht
 generalize four (data os 58)=x at*
 generalize four (data os 59)=y at*
 obtain⟨pq,hpq⟩:∃pq,pq=sJ x y t:=⟨_,rfl⟩
 rw[<-hpq]
 cases x with
 |none=>
  have hv:pq=(t/2,t/8*7):=hpq
  subst hv
  clear hpq
  dsimp only[Option.getD,Option.isSome]at HL1
  go_enter func324,ntmps324
  go_wp2_with fail
  refine HO0.mono ?_
  rintro ee u1 ⟨rfl,hb1⟩
  have HB1:=gu (HB0.trans (hb1.mono HB0.size))
  have HR1:=gu ((hb1.block w.heap.size (by simp)).trans (G8 w (.cells (rF rep gF cl yo ne d0 d1 d2 d3 d4 d5 sa n sc sv) 262)))
  clear hb1 HO0
  go_wp2_with fail
  refine(HL1 _ HB1).mono ?_
  rintro ee u2 ⟨rfl,hb2⟩
  have HB2:=gu (HB1.trans (hb2.mono HB1.size))
  have HR2:=gu ((hb2.block w.heap.size (Vj HR1)).trans HR1)
  clear hb2 HL1 HR1
  go_wp2_with (refine VO rfl 262 (.tmp 2) rfl w.heap.size rfl 262 _ (0,0) _ HR2 dY rfl (by kernel_rfl) ?_)
  refine(HO1 _).mono ?_
  rintro ee u3 ⟨rfl,hb3⟩
  have HB3:=gu (HB2.trans (hb3.mono HB2.size))
  clear hb3 HO1 HR2
  go_wp2_with fail
  refine(HL2 _ HB3).mono ?_
  rintro ee u4 ⟨rfl,hb4⟩
  have HB4:=gu (HB3.trans (hb4.mono HB3.size))
  clear hb4 HL2
  go_wp2
  go_ret2
  exact⟨by first|rfl|simp[*],HB4⟩
 |some x=>
  dsimp only[Option.getD,Option.isSome]at HL1
  cases y with
  |none=>
   have hv:pq=(t/2,t/8*7):=hpq
   subst hv
   clear hpq
   dsimp only[Option.getD,Option.isSome]at HL2
   go_enter func324,ntmps324
   go_wp2_with fail
   refine HO0.mono ?_
   rintro ee u1 ⟨rfl,hb1⟩
   have HB1:=gu (HB0.trans (hb1.mono HB0.size))
   have HR1:=gu ((hb1.block w.heap.size (by simp)).trans (G8 w (.cells (rF rep gF cl yo ne d0 d1 d2 d3 d4 d5 sa n sc sv) 262)))
   clear hb1 HO0
   go_wp2_with fail
   refine(HL1 _ HB1).mono ?_
   rintro ee u2 ⟨rfl,hb2⟩
   have HB2:=gu (HB1.trans (hb2.mono HB1.size))
   have HR2:=gu ((hb2.block w.heap.size (Vj HR1)).trans HR1)
   clear hb2 HL1 HR1
   go_wp2_with (refine VO rfl 262 (.tmp 2) rfl w.heap.size rfl 262 _ (0,0) _ HR2 dY rfl (by kernel_rfl) ?_)
   refine(HO1 _).mono ?_
   rintro ee u3 ⟨rfl,hb3⟩
   have HB3:=gu (HB2.trans (hb3.mono HB2.size))
   clear hb3 HO1 HR2
   go_wp2_with fail
   refine(HL2 _ HB3).mono ?_
   rintro ee u4 ⟨rfl,hb4⟩
   have HB4:=gu (HB3.trans (hb4.mono HB3.size))
   clear hb4 HL2
   go_wp2
   go_ret2
   exact⟨by first|rfl|simp[*],HB4⟩
  |some y=>
   dsimp only[Option.getD,Option.isSome]at HL2
   by_cases h1:x<y
   ·by_cases h2:y<t
    ·have hv:pq=(x,y):=hpq.trans (by show(if x<y/\y<t then(x,y)else _)=_;rw[ay ⟨h1,h2⟩])
     subst hv
     clear hpq
     go_enter func324,ntmps324
     go_wp2_with fail
     refine HO0.mono ?_
     rintro ee u1 ⟨rfl,hb1⟩
     have HB1:=gu (HB0.trans (hb1.mono HB0.size))
     have HR1:=gu ((hb1.block w.heap.size (by simp)).trans (G8 w (.cells (rF rep gF cl yo ne d0 d1 d2 d3 d4 d5 sa n sc sv) 262)))
     clear hb1 HO0
     go_wp2_with fail
     refine(HL1 _ HB1).mono ?_
     rintro ee u2 ⟨rfl,hb2⟩
     have HB2:=gu (HB1.trans (hb2.mono HB1.size))
     have HR2:=gu ((hb2.block w.heap.size (Vj HR1)).trans HR1)
     clear hb2 HL1 HR1
     go_wp2_with (refine VO rfl 262 (.tmp 2) rfl w.heap.size rfl 262 _ (0,0) _ HR2 dY rfl (by kernel_rfl) ?_)
     refine(HO1 _).mono ?_
     rintro ee u3 ⟨rfl,hb3⟩
     have HB3:=gu (HB2.trans (hb3.mono HB2.size))
     clear hb3 HO1 HR2
     go_wp2_with fail
     refine(HL2 _ HB3).mono ?_
     rintro ee u4 ⟨rfl,hb4⟩
     have HB4:=gu (HB3.trans (hb4.mono HB3.size))
     clear hb4 HL2
     go_wp2
     go_ret2
     exact⟨by first|rfl|simp[*],HB4⟩
    ·have hv:pq=(t/2,t/8*7):=hpq.trans (by show(if x<y/\y<t then(x,y)else _)=_;rw[ax (fun h=>h2 h.2)])
     subst hv
     clear hpq
     go_enter func324,ntmps324
     go_wp2_with fail
     refine HO0.mono ?_
     rintro ee u1 ⟨rfl,hb1⟩
     have HB1:=gu (HB0.trans (hb1.mono HB0.size))
     have HR1:=gu ((hb1.block w.heap.size (by simp)).trans (G8 w (.cells (rF rep gF cl yo ne d0 d1 d2 d3 d4 d5 sa n sc sv) 262)))
     clear hb1 HO0
     go_wp2_with fail
     refine(HL1 _ HB1).mono ?_
     rintro ee u2 ⟨rfl,hb2⟩
     have HB2:=gu (HB1.trans (hb2.mono HB1.size))
     have HR2:=gu ((hb2.block w.heap.size (Vj HR1)).trans HR1)
     clear hb2 HL1 HR1
     go_wp2_with (refine VO rfl 262 (.tmp 2) rfl w.heap.size rfl 262 _ (0,0) _ HR2 dY rfl (by kernel_rfl) ?_)
     refine(HO1 _).mono ?_
     rintro ee u3 ⟨rfl,hb3⟩
     have HB3:=gu (HB2.trans (hb3.mono HB2.size))
     clear hb3 HO1 HR2
     go_wp2_with fail
     refine(HL2 _ HB3).mono ?_
     rintro ee u4 ⟨rfl,hb4⟩
     have HB4:=gu (HB3.trans (hb4.mono HB3.size))
     clear hb4 HL2
     go_wp2
     go_ret2
     exact⟨by first|rfl|simp[*],HB4⟩
   ·have hv:pq=(t/2,t/8*7):=hpq.trans (by show(if x<y/\y<t then(x,y)else _)=_;rw[ax (fun h=>h1 h.1)])
    subst hv
    clear hpq
    go_enter func324,ntmps324
    go_wp2_with fail
    refine HO0.mono ?_
    rintro ee u1 ⟨rfl,hb1⟩
    have HB1:=gu (HB0.trans (hb1.mono HB0.size))
    have HR1:=gu ((hb1.block w.heap.size (by simp)).trans (G8 w (.cells (rF rep gF cl yo ne d0 d1 d2 d3 d4 d5 sa n sc sv) 262)))
    clear hb1 HO0
    go_wp2_with fail
    refine(HL1 _ HB1).mono ?_
    rintro ee u2 ⟨rfl,hb2⟩
    have HB2:=gu (HB1.trans (hb2.mono HB1.size))
    have HR2:=gu ((hb2.block w.heap.size (Vj HR1)).trans HR1)
    clear hb2 HL1 HR1
    go_wp2_with (refine VO rfl 262 (.tmp 2) rfl w.heap.size rfl 262 _ (0,0) _ HR2 dY rfl (by kernel_rfl) ?_)
    refine(HO1 _).mono ?_
    rintro ee u3 ⟨rfl,hb3⟩
    have HB3:=gu (HB2.trans (hb3.mono HB2.size))
    clear hb3 HO1 HR2
    go_wp2_with fail
    refine(HL2 _ HB3).mono ?_
    rintro ee u4 ⟨rfl,hb4⟩
    have HB4:=gu (HB3.trans (hb4.mono HB3.size))
    clear hb4 HL2
    go_wp2
    go_ret2
    exact⟨by first|rfl|simp[*],HB4⟩
end yJ
namespace Ref
open Bs Js
variable{w0:fV} {P:Nat→Prop} {w w':fV} {G:Nat} {r r':Rf}
theorem JQ(h:Rm w0 P w G r)(s:ByteArray)(rest:List ByteArray)(ht:r.tl=s::rest)(hl:rest.length<=16):f_ Vh 20 #[p_ G] w fun ee w'=>ee=.returned (.tuple #[.string s,.bool true])/\∃v,Rm w0 P w' G {r with tv:=v,tl:=rest}:=by
 obtain⟨i0,hi,hz0,hz1,hz2⟩:=Vx wW
 have HM:=gu h
 have hlen:r.tl.length=rest.length+1:=by rw[ht];rfl
 obtain⟨g,cp,hv,hnc,hcm,hcells⟩:=jv h.goes (by rw[hlen];omega)
 have x0:w.cell? (a_ g 0)=some (.string s):=hcells 0 _ (by rw[ht];rfl)
 have c15:=h.c15
 have f15:=h.free 15
 rw[hv,hlen]at c15
 have HC:=gu hcells
 have HV:=gu hv
 obtain⟨q,hq⟩:∃q,q=rest.length:=⟨_,rfl⟩
 rw[<-hq]at c15 hlen
 have hd0:((((q+1:Nat):Int))==0)=false:=by rw[aD];omega
 have hd1:(1:Int)<=((q+1:Nat):Int):=by omega
 have hd2:(0:Int)<((q+1:Nat):Int):=by omega
 rw[hlen]at hnc
 have HDR:=gu ht
 have HNN:=gu hq
 have hnn:q<=16:=by omega
 clear h hcells hv ht hcm hlen hl hq
 by_cases hcp:cp=1
 ·subst hcp
  have hq0:q=0:=by omega
  subst hq0
  have hnil:rest=[]:=bD HNN.symm
  have HNIL:=gu hnil
  clear hnil hd0 hd1 hd2 hnn
  go_enter func20,ntmps20
  go_wp2_with (at_builtin;refine h_ rfl (.const (.slice none 0 0)) (.tmp 22) 49 rfl 0 9 i0 (.string ⟨#[]⟩) 1 16 bX hi hz0 hz1 hz2 rfl (by decide) (.slice none 0 0) 0 [] rfl (Vp _ _ _ _) (a_ g 0) 0 0 [] rfl ?ln ?c1 ?one ?h63 ?hby ?hba ?_)
  case ln=>rfl
  case c1=>
   intro j u hj;simp at hj
  case one=>intro u hu;simp at hu
  case h63=>simp only[maxLen];omega
  case hby=>omega
  case hba=>exact aN _
  intro v' w2 hown hg hf
  have HN:=gu (HM.NH (r':={r with tv:=v',tl:=rest}) (l:=rest) hg (au rfl) (by rw[gB HNIL];exact hown) (by
   rcases hf with h|h
   ·exact au h
   ·exact aA (aA h)) rfl rfl rfl rfl rfl)
  have hrow:=HM.after hg (au rfl)
  have e15:=(Vk (w:=w) (a:=(a_ G 15)) hrow).trans c15
  have k15:=(VJ (w:=w) (a:=(a_ G 15)) hrow).trans f15
  obtain⟨a2,c2,hv2⟩:=jK hown
  clear hown hg hf hrow c15 f15 x0 HC HV HDR HNN
  subst hv2
  go_wp2
  go_ret2
  exact⟨rfl,_,HN⟩
 ·go_enter func20,ntmps20
  go_wp2_with (at_builtin;refine h_ rfl (.const (.slice none 0 0)) (.tmp 22) 49 rfl 0 9 i0 (.string ⟨#[]⟩) 1 16 bX hi hz0 hz1 hz2 rfl (by decide) (.slice none 0 0) 0 [] rfl (Vp _ _ _ _) (a_ g 1) q (cp-1) (strs rest) rfl ?ln ?c1 ?one ?h63 ?hby ?hba ?_)
  case ln=>rw[pG,<-gB HNN]
  case c1=>
   intro j u hj
   have q1:=HC (j+1) u (by rw[gB HDR];exact hj)
   rw[show((a_ g 1):Addr).add j=(a_ g (j+1))from by simp[Addr.add_lit,fG]]
   exact q1
  case one=>intro u hu;unfold strs at hu;obtain⟨x,_,rfl⟩:=dO.1 hu;rfl
  case h63=>simp only[maxLen];omega
  case hby=>omega
  case hba=>exact aN _
  intro v' w2 hown hg hf
  have HN:=gu (HM.NH (r':={r with tv:=v',tl:=rest}) (l:=rest) hg (au rfl) (by rw[<-gB HNN];exact hown) (by
   rcases hf with h|h
   ·exact au h
   ·exact aA (aA h)) rfl rfl rfl rfl rfl)
  have hrow:=HM.after hg (au rfl)
  have e15:=(Vk (w:=w) (a:=(a_ G 15)) hrow).trans c15
  have k15:=(VJ (w:=w) (a:=(a_ G 15)) hrow).trans f15
  obtain⟨a2,c2,hv2⟩:=jK hown
  clear hown hg hf hrow c15 f15 x0 HC HV HDR HNN
  subst hv2
  go_wp2
  go_ret2
  exact⟨rfl,_,HN⟩
end Ref
end Go.Proofs.YtbhbbeebncmaiaaGreatDoor
