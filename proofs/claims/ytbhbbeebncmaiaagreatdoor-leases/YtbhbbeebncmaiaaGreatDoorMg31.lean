import Derived.Test.YtbhbbeebncmaiaaGreatDoorMg15
import Derived.Test.YtbhbbeebncmaiaaGreatDoorMg25
set_option linter.all false
set_option maxHeartbeats 4000000
set_option maxRecDepth 10000
open Go.ChangeShapes Go.WideShapes Go.ChangeAt Go.RowKit
open Go renaming World → fV
open Go.RowKit renaming Below → gm
open Go.Value renaming int → Vb
open Go.IntKind renaming u8 → Vd, u16 → Ve, u32 → Vf, i64 → Vg
open Go.Proofs.Tryz
namespace Go.Proofs.YtbhbbeebncmaiaaGreatDoor
namespace rO
open Bs Rb Wt
def Dp(op:Int):Bool:=op==1||op==2
def vE(op:Int)(fm:List UInt8)(fi:Int)(tm:List UInt8)(ti:Int):ByteArray:=if Dp op then⟨(GJ op fm fi tm ti).toArray⟩else⟨#[]⟩
def Bu(op:Int):Int:=if Dp op then 0 else 2
theorem lq(op:Int)(a b c d e f:UInt8)(fi:Int)(a' b' c' d' e' f':UInt8)(ti:Int)(w:fV)
  (h1:0<=op) (h2:op<=65535) (h3:0<=fi) (h4:fi<=4294967295) (h5:0<=ti) (h6:ti<=4294967295):
  Calls prog 151 #[.agg (rA op a.toNat b.toNat c.toNat d.toNat e.toNat f.toNat fi a'.toNat b'.toNat c'.toNat d'.toNat e'.toNat f'.toNat ti)] w fun ee w'=>
   ee=.returned (.tuple #[.string (vE op [a,b,c,d,e,f] fi [a',b',c',d',e',f'] ti),Vb Vg (Bu op)])/\gm w.heap.size w w':=by
 by_cases hop:Dp op=true
 ·have h:=sM op a b c d e f fi a' b' c' d' e' f' ti w h1 h2 h3 h4 h5 h6 hop
  rw[vE,Bu,ay hop,ay hop]
  exact h
 ·rw[vE,Bu,ax hop,ax hop]
  have hop':(op==1||op==2)=false:=by simpa[Dp]using hop
  have HO:=gu (oQ op)
  clear hop
  go_enter func151,ntmps151
  go_wp2_with fail
  refine(HO _).mono ?_
  rintro ee w1 ⟨rfl,rfl⟩
  rw[hop']
  go_wp2
  go_ret2
  exact⟨rfl,(R9 _ _).alloc (ai _) _⟩
theorem lZ{a b:ByteArray}{k:Int}(h:a=b):Ending.returned (.tuple #[.string a,Vb Vg k])=.returned (.tuple #[.string b,Vb Vg k]):=by rw[h]
theorem join(op:Int)(a b c d e f:UInt8)(fi:Int)(a' b' c' d' e' f':UInt8)(ti:Int):
  ((((((⟨#[0,1,8,0,6,4]⟩:ByteArray)++⟨#[gJ (op/256),gJ op]⟩)++⟨#[a,b,c,d,e,f]⟩)++⟨#[gJ (fi/256/256/256),gJ (fi/256/256),gJ (fi/256),gJ fi]⟩)++⟨#[a',b',c',d',e',f']⟩)++⟨#[gJ (ti/256/256/256),gJ (ti/256/256),gJ (ti/256),gJ ti]⟩)
   =⟨(GJ op [a,b,c,d,e,f] fi [a',b',c',d',e',f'] ti).toArray⟩:=by
 rw[GJ,<-vM,<-vM]
 apply aC
 simp[aO,su,iy]
theorem Am(op:Int)(a b c d e f:UInt8)(fi:Int)(a' b' c' d' e' f':UInt8)(ti:Int)(w:fV)
  (h1:0<=op) (h2:op<=65535) (h3:0<=fi) (h4:fi<=4294967295) (h5:0<=ti) (h6:ti<=4294967295) (hop:Dp op=true):
  Calls prog 89 #[.agg (rA op a.toNat b.toNat c.toNat d.toNat e.toNat f.toNat fi a'.toNat b'.toNat c'.toNat d'.toNat e'.toNat f'.toNat ti)] w fun ee w'=>
   ee=.returned (.tuple #[.string ⟨(GJ op [a,b,c,d,e,f] fi [a',b',c',d',e',f'] ti).toArray⟩,Vb Vg 0])/\gm w.heap.size w w':=by
 have hq1:IntKind.i64.wrap op=op:=wrap_i64 _ (by omega) (by omega)
 have hcase:((op !=1)=false)∨((op !=1)=true/\(op !=2)=false):=by
  simp only[Dp,Bool.or_eq_true,fT]at hop
  rcases hop with rfl|rfl
  ·exact .inl rfl
  ·exact .inr ⟨rfl,rfl⟩
 clear hop
 rcases hcase with hc1|⟨hc1,hc2⟩
 all_goals
  go_enter func89,ntmps89
  go_wp2
  go_region_held3 (fun u=>u.cell? (a_ w.heap.size 0)=some (Vb Ve op)/\u.cell? (a_ w.heap.size 1)=some (Vb Vd a.toNat)/\u.cell? (a_ w.heap.size 2)=some (Vb Vd b.toNat)/\u.cell? (a_ w.heap.size 3)=some (Vb Vd c.toNat)
   /\u.cell? (a_ w.heap.size 4)=some (Vb Vd d.toNat)/\u.cell? (a_ w.heap.size 5)=some (Vb Vd e.toNat)/\u.cell? (a_ w.heap.size 6)=some (Vb Vd f.toNat)/\u.cell? (a_ w.heap.size 7)=some (Vb Vf fi)
   /\u.cell? (a_ w.heap.size 8)=some (Vb Vd a'.toNat)/\u.cell? (a_ w.heap.size 9)=some (Vb Vd b'.toNat)/\u.cell? (a_ w.heap.size 10)=some (Vb Vd c'.toNat)
   /\u.cell? (a_ w.heap.size 11)=some (Vb Vd d'.toNat)/\u.cell? (a_ w.heap.size 12)=some (Vb Vd e'.toNat)/\u.cell? (a_ w.heap.size 13)=some (Vb Vd f'.toNat)/\u.cell? (a_ w.heap.size 14)=some (Vb Vf ti)
   /\w.heap.size<u.heap.size) (go_keep)
   (first|(go_at_call 131;refine(jG _ _ (by omega) (by omega)).mono ?_;rintro ee u ⟨rfl,hb⟩;have hc:=iF hb;have hz:=hb.size;have hzz:w.heap.size<u.heap.size:=by first|omega|(simp at hz;omega))|(go_at_call 132;refine(uy _ _ _ _ _ _ _).mono ?_;rintro ee u ⟨rfl,hb⟩;have hc:=iF hb;have hz:=hb.size;have hzz:w.heap.size<u.heap.size:=by first|omega|(simp at hz;omega))|(go_at_call 91;refine(pW _ _ (by omega) (by omega)).mono ?_;rintro ee u ⟨rfl,hb⟩;have hc:=iF hb;have hz:=hb.size;have hzz:w.heap.size<u.heap.size:=by first|omega|(simp at hz;omega)))
  go_wp2
  go_ret2
  refine⟨lZ (join op a b c d e f fi a' b' c' d' e' f' ti),?_⟩
  refine VK ?_ (VY ‹gm _ _ _› ?_)
  rotate_left
  ·omega
  refine VK ?_ (VY ‹gm _ _ _› ?_)
  rotate_left
  ·omega
  refine VK ?_ (VY ‹gm _ _ _› ?_)
  rotate_left
  ·omega
  refine VK ?_ (VY ‹gm _ _ _› ?_)
  rotate_left
  ·omega
  refine VK ?_ (VY ‹gm _ _ _› ?_)
  rotate_left
  ·show w.heap.size<=(w.alloc _).heap.size
   simp
  exact((R9 _ _).alloc (ai _) _).drew
theorem kz(op:Int)(a b c d e f:UInt8)(fi:Int)(a' b' c' d' e' f':UInt8)(ti:Int)(w:fV)
  (h1:0<=op) (h2:op<=65535) (h3:0<=fi) (h4:fi<=4294967295) (h5:0<=ti) (h6:ti<=4294967295):
  Calls prog 89 #[.agg (rA op a.toNat b.toNat c.toNat d.toNat e.toNat f.toNat fi a'.toNat b'.toNat c'.toNat d'.toNat e'.toNat f'.toNat ti)] w fun ee w'=>
   ee=.returned (.tuple #[.string (vE op [a,b,c,d,e,f] fi [a',b',c',d',e',f'] ti),Vb Vg (Bu op)])/\gm w.heap.size w w':=by
 by_cases hop:Dp op=true
 ·have h:=Am op a b c d e f fi a' b' c' d' e' f' ti w h1 h2 h3 h4 h5 h6 hop
  rw[vE,Bu,ay hop,ay hop]
  exact h
 ·rw[vE,Bu,ax hop,ax hop]
  have hc1:(op !=1)=true:=by simp[Dp]at hop;simp;omega
  have hc2:(op !=2)=true:=by simp[Dp]at hop;simp;omega
  clear hop
  go_enter func89,ntmps89
  go_wp2
  go_ret2
  exact⟨rfl,(R9 _ _).alloc (ai _) _⟩
end rO
namespace Js
open Bs
open Dh (gU gT jM kr iV ib lM heavy)
variable{w0:fV} {P:Nat→Prop} {w w':fV} {B:Nat} {m m':Mc}
def Mc.qD(m:Mc):gU:=[(50,g_ m.iB),(54,g_ m.iO)]
theorem yu(h:Mx w0 P w B m)(ho:m.Ok):Calls prog 125 #[p_ B] w fun ee w'=>∃g,ee=.returned (.slice (some (a_ g 0)) 2 2)/\Mx w0 P w' B m/\w'.heap[g]?=some (.cells (gT m.qD).toArray 151 (0,0)):=by
 have HM:=gu h
 have HO:=gu ho
 have HK:Hid (∀u,gm w.heap.size w u->u.cell? (a_ B 27)=some (Vb Vf m.iB)/\u.cell? (a_ B 28)=some (Vb Vf m.iO)):=gu (fun u hb=>⟨(h.below hb).uF,(h.below hb).c28⟩)
 have hlt:=h.lt
 clear h ho
 go_enter func125,ntmps125
 go_wp2
 refine wp_region_held_drew (S:=fun u=>u.cell? (a_ B 27)=some (Vb Vf m.iB)/\u.cell? (a_ B 28)=some (Vb Vf m.iO)) (by kernel_rfl) (HK _ ((R9 _ _).drew)) (fun hHeld=> ?_)
 refine tkH_ (i:=0) (v:=(p_ B)) rfl (by kernel_rfl) (fun _ _ _ h=>h) (au ⟨by rfl,?_⟩) hHeld ?_
 ·(intro wz hSz;(try dsimp only at hSz);go_simp)
 try simp only[Act.put,ae,ah,af]
 refine tkH_ (i:=1) (v:=(p_ B)) rfl (by kernel_rfl) (fun _ _ _ h=>h) (au ⟨by rfl,?_⟩) hHeld ?_
 ·(intro wz hSz;(try dsimp only at hSz);go_simp)
 try simp only[Act.put,ae,ah,af]
 refine Vo (i:=2) (v:=(.pointer (some (a_ B 25)))) rfl (by kernel_rfl) (by kernel_rfl) (by kernel_rfl) (fun _ _ _ h=>h) (au ⟨by rfl,?_⟩) hHeld ?_
 ·(intro wz hSz;(try dsimp only at hSz);go_simp)
 try simp only[Act.put,ae,ah,af]
 refine Vo (i:=3) (v:=(.pointer (some (a_ B 27)))) rfl (by kernel_rfl) (by kernel_rfl) (by kernel_rfl) (fun _ _ _ h=>h) (au ⟨by rfl,?_⟩) hHeld ?_
 ·(intro wz hSz;(try dsimp only at hSz);go_simp)
 try simp only[Act.put,ae,ah,af]
 refine tkH_ (i:=4) (v:=(Vb Vf m.iB)) rfl (by kernel_rfl) (fun _ _ _ h=>h) (au ⟨by rfl,?_⟩) hHeld ?_
 ·(intro wz hSz;(try dsimp only at hSz);go_simp)
 try simp only[Act.put,ae,ah,af]
 refine tkH_ (i:=7) (v:=(p_ B)) rfl (by kernel_rfl) (fun _ _ _ h=>h) (au ⟨by rfl,?_⟩) hHeld ?_
 ·(intro wz hSz;(try dsimp only at hSz);go_simp)
 try simp only[Act.put,ae,ah,af]
 refine tkH_ (i:=8) (v:=(p_ B)) rfl (by kernel_rfl) (fun _ _ _ h=>h) (au ⟨by rfl,?_⟩) hHeld ?_
 ·(intro wz hSz;(try dsimp only at hSz);go_simp)
 try simp only[Act.put,ae,ah,af]
 refine Vo (i:=9) (v:=(.pointer (some (a_ B 25)))) rfl (by kernel_rfl) (by kernel_rfl) (by kernel_rfl) (fun _ _ _ h=>h) (au ⟨by rfl,?_⟩) hHeld ?_
 ·(intro wz hSz;(try dsimp only at hSz);go_simp)
 try simp only[Act.put,ae,ah,af]
 refine Vo (i:=10) (v:=(.pointer (some (a_ B 28)))) rfl (by kernel_rfl) (by kernel_rfl) (by kernel_rfl) (fun _ _ _ h=>h) (au ⟨by rfl,?_⟩) hHeld ?_
 ·(intro wz hSz;(try dsimp only at hSz);go_simp)
 try simp only[Act.put,ae,ah,af]
 refine tkH_ (i:=11) (v:=(Vb Vf m.iO)) rfl (by kernel_rfl) (fun _ _ _ h=>h) (au ⟨by rfl,?_⟩) hHeld ?_
 ·(intro wz hSz;(try dsimp only at hSz);go_simp)
 try simp only[Act.put,ae,ah,af]
 refine wpAnyH_ready (rs:=[5,12]) (by kernel_rfl) (by simp) ?_
 refine AllReadyH.cons rfl (fun K hK=> ?_) (AllReadyH.cons rfl (fun K hK=> ?_) AllReadyH.nil)
 ·go_simp
  clear hHeld
  refine hK.out _ _ ?_ (fun hHeld=> ?_)
  ·exact HK _ (by(repeat (first|exact R9 _ _|(refine VH ?_)|(refine VL ?_ (by first|(simp;done)|(simp;omega)) _))))
  clear hK K
  try simp only[Act.put,ae,ah,af]
  refine wpAnyH_ready (rs:=[6,12]) (by kernel_rfl) (by simp) ?_
  refine AllReadyH.cons rfl (fun K hK=> ?_) (AllReadyH.cons rfl (fun K hK=> ?_) AllReadyH.nil)
  ·go_simp
   refine bE (jJ 50 m.iB w.heap.size _ (G8 w (.cells #[Vb Vf m.iB] 53)) HO.iB) ?_
   rintro ee u1 ⟨rfl,hb1⟩
   have hw1:gm w.heap.size w u1:=VK (by(repeat (first|exact R9 _ _|(refine VH ?_)|(refine VL ?_ (by first|(simp;done)|(simp;omega)) _)))) (hb1.mono (by first|(simp;done)|(simp;omega)))
   have HW1:=gu hw1
   clear hb1 hw1
   go_wp2_with fail
   clear hHeld
   refine hK.out _ _ ?_ (fun hHeld=> ?_)
   ·exact HK _ HW1
   clear hK K
   try simp only[Act.put,ae,ah,af]
   refine wpAnyH_ready (rs:=[12]) (by kernel_rfl) (by simp) ?_
   refine AllReadyH.cons rfl (fun K hK=> ?_) AllReadyH.nil
   ·go_simp
    clear hHeld
    refine hK.out _ _ ?_ (fun hHeld=> ?_)
    ·exact HK _ (HW1.alloc HW1.size _)
    clear hK K
    try simp only[Act.put,ae,ah,af]
    refine wpAnyH_ready (rs:=[13]) (by kernel_rfl) (by simp) ?_
    refine AllReadyH.cons rfl (fun K hK=> ?_) AllReadyH.nil
    ·go_simp
     refine bE (jJ 54 m.iO u1.heap.size _ (G8 u1 (.cells #[Vb Vf m.iO] 53)) HO.iO) ?_
     rintro ee u2 ⟨rfl,hb2⟩
     have hw2:gm w.heap.size w u2:=VK (HW1.alloc HW1.size _) (hb2.mono (by have:=HW1.size;first|omega|(simp;omega)))
     have HW2:=gu hw2
     clear hb2 hw2
     go_wp2_with fail
     clear hHeld
     refine hK.out _ _ ?_ (fun hHeld=> ?_)
     ·exact HK _ HW2
     clear hK K
     try simp only[Act.put,ae,ah,af]
     refine wpAnyH_ready (rs:=[14]) (by kernel_rfl) (by simp) ?_
     refine AllReadyH.cons rfl (fun K hK=> ?_) AllReadyH.nil
     ·go_simp
      clear hHeld
      refine hK.out _ _ ?_ (fun hHeld=> ?_)
      ·exact HK _ (HW2.alloc HW2.size _)
      clear hK K
      try simp only[Act.put,ae,ah,af]
      refine wpAnyH_ready (rs:=[15]) (by kernel_rfl) (by simp) ?_
      refine AllReadyH.cons rfl (fun K hK=> ?_) AllReadyH.nil
      ·go_simp
       clear hHeld
       refine hK.out _ _ ?_ (fun hHeld=> ?_)
       ·exact HK _ (HW2.alloc HW2.size _)
       clear hK K
       try simp only[Act.put,ae,ah,af]
       refine VG (by kernel_rfl) ?_ _
       have HF:=gu ((HM.below HW2).alloc (.cells (rC 50 ⟨(g_ m.iB).toArray⟩ 54 ⟨(g_ m.iO).toArray⟩) 151))
       have HR:=gu (G8 u2 (.cells (rC 50 ⟨(g_ m.iB).toArray⟩ 54 ⟨(g_ m.iO).toArray⟩) 151))
       clear hHeld
       go_wp2
       go_ret
       exact⟨_,rfl,HF,HR⟩
  ·go_simp
   clear hHeld
   refine hK.out _ _ ?_ (fun hHeld=> ?_)
   ·exact HK _ (by(repeat (first|exact R9 _ _|(refine VH ?_)|(refine VL ?_ (by first|(simp;done)|(simp;omega)) _))))
   clear hK K
   try simp only[Act.put,ae,ah,af]
   refine wpAnyH_ready (rs:=[6]) (by kernel_rfl) (by simp) ?_
   refine AllReadyH.cons rfl (fun K hK=> ?_) AllReadyH.nil
   ·go_simp
    refine bE (jJ 50 m.iB w.heap.size _ (nA w (.cells #[Vb Vf m.iB] 53) (.cells #[Vb Vf m.iO] 53)) HO.iB) ?_
    rintro ee u1 ⟨rfl,hb1⟩
    have hw1:gm w.heap.size w u1:=VK (by(repeat (first|exact R9 _ _|(refine VH ?_)|(refine VL ?_ (by first|(simp;done)|(simp;omega)) _)))) (hb1.mono (by first|(simp;done)|(simp;omega)))
    have HW1:=gu hw1
    have HG2:Hid (u1.heap[w.heap.size+1]?=some (.cells #[Vb Vf m.iO] 53 (0,0))):=gu ((hb1.block (w.heap.size+1) (by first|(simp;done)|(simp;omega))).trans (jq w (.cells #[Vb Vf m.iB] 53) (.cells #[Vb Vf m.iO] 53)))
    clear hb1 hw1
    go_wp2_with fail
    clear hHeld
    refine hK.out _ _ ?_ (fun hHeld=> ?_)
    ·exact HK _ HW1
    clear hK K
    try simp only[Act.put,ae,ah,af]
    refine wpAnyH_ready (rs:=[13]) (by kernel_rfl) (by simp) ?_
    refine AllReadyH.cons rfl (fun K hK=> ?_) AllReadyH.nil
    ·go_simp
     refine bE (jJ 54 m.iO (w.heap.size+1) _ HG2 HO.iO) ?_
     rintro ee u2 ⟨rfl,hb2⟩
     have hw2:gm w.heap.size w u2:=VK HW1 (hb2.mono (by have:=HW1.size;first|omega|(simp;omega)))
     have HW2:=gu hw2
     clear hb2 hw2
     go_wp2_with fail
     clear hHeld
     refine hK.out _ _ ?_ (fun hHeld=> ?_)
     ·exact HK _ HW2
     clear hK K
     try simp only[Act.put,ae,ah,af]
     refine wpAnyH_ready (rs:=[14]) (by kernel_rfl) (by simp) ?_
     refine AllReadyH.cons rfl (fun K hK=> ?_) AllReadyH.nil
     ·go_simp
      clear hHeld
      refine hK.out _ _ ?_ (fun hHeld=> ?_)
      ·exact HK _ (HW2.alloc HW2.size _)
      clear hK K
      try simp only[Act.put,ae,ah,af]
      refine wpAnyH_ready (rs:=[15]) (by kernel_rfl) (by simp) ?_
      refine AllReadyH.cons rfl (fun K hK=> ?_) AllReadyH.nil
      ·go_simp
       clear hHeld
       refine hK.out _ _ ?_ (fun hHeld=> ?_)
       ·exact HK _ (HW2.alloc HW2.size _)
       clear hK K
       try simp only[Act.put,ae,ah,af]
       refine VG (by kernel_rfl) ?_ _
       have HF:=gu ((HM.below HW2).alloc (.cells (rC 50 ⟨(g_ m.iB).toArray⟩ 54 ⟨(g_ m.iO).toArray⟩) 151))
       have HR:=gu (G8 u2 (.cells (rC 50 ⟨(g_ m.iB).toArray⟩ 54 ⟨(g_ m.iO).toArray⟩) 151))
       clear hHeld
       go_wp2
       go_ret
       exact⟨_,rfl,HF,HR⟩
 ·go_simp
  clear hHeld
  refine hK.out _ _ ?_ (fun hHeld=> ?_)
  ·exact HK _ (by(repeat (first|exact R9 _ _|(refine VH ?_)|(refine VL ?_ (by first|(simp;done)|(simp;omega)) _))))
  clear hK K
  try simp only[Act.put,ae,ah,af]
  refine wpAnyH_ready (rs:=[5]) (by kernel_rfl) (by simp) ?_
  refine AllReadyH.cons rfl (fun K hK=> ?_) AllReadyH.nil
  ·go_simp
   clear hHeld
   refine hK.out _ _ ?_ (fun hHeld=> ?_)
   ·exact HK _ (by(repeat (first|exact R9 _ _|(refine VH ?_)|(refine VL ?_ (by first|(simp;done)|(simp;omega)) _))))
   clear hK K
   try simp only[Act.put,ae,ah,af]
   refine wpAnyH_ready (rs:=[6]) (by kernel_rfl) (by simp) ?_
   refine AllReadyH.cons rfl (fun K hK=> ?_) AllReadyH.nil
   ·go_simp
    refine bE (jJ 50 m.iB (w.heap.size+1) _ (jq w (.cells #[Vb Vf m.iO] 53) (.cells #[Vb Vf m.iB] 53)) HO.iB) ?_
    rintro ee u1 ⟨rfl,hb1⟩
    have hw1:gm w.heap.size w u1:=VK (by(repeat (first|exact R9 _ _|(refine VH ?_)|(refine VL ?_ (by first|(simp;done)|(simp;omega)) _)))) (hb1.mono (by first|(simp;done)|(simp;omega)))
    have HW1:=gu hw1
    have HG2:Hid (u1.heap[w.heap.size]?=some (.cells #[Vb Vf m.iO] 53 (0,0))):=gu ((hb1.block w.heap.size (by first|(simp;done)|(simp;omega))).trans (nA w (.cells #[Vb Vf m.iO] 53) (.cells #[Vb Vf m.iB] 53)))
    clear hb1 hw1
    go_wp2_with fail
    clear hHeld
    refine hK.out _ _ ?_ (fun hHeld=> ?_)
    ·exact HK _ HW1
    clear hK K
    try simp only[Act.put,ae,ah,af]
    refine wpAnyH_ready (rs:=[13]) (by kernel_rfl) (by simp) ?_
    refine AllReadyH.cons rfl (fun K hK=> ?_) AllReadyH.nil
    ·go_simp
     refine bE (jJ 54 m.iO w.heap.size _ HG2 HO.iO) ?_
     rintro ee u2 ⟨rfl,hb2⟩
     have hw2:gm w.heap.size w u2:=VK HW1 (hb2.mono (by have:=HW1.size;first|omega|(simp;omega)))
     have HW2:=gu hw2
     clear hb2 hw2
     go_wp2_with fail
     clear hHeld
     refine hK.out _ _ ?_ (fun hHeld=> ?_)
     ·exact HK _ HW2
     clear hK K
     try simp only[Act.put,ae,ah,af]
     refine wpAnyH_ready (rs:=[14]) (by kernel_rfl) (by simp) ?_
     refine AllReadyH.cons rfl (fun K hK=> ?_) AllReadyH.nil
     ·go_simp
      clear hHeld
      refine hK.out _ _ ?_ (fun hHeld=> ?_)
      ·exact HK _ (HW2.alloc HW2.size _)
      clear hK K
      try simp only[Act.put,ae,ah,af]
      refine wpAnyH_ready (rs:=[15]) (by kernel_rfl) (by simp) ?_
      refine AllReadyH.cons rfl (fun K hK=> ?_) AllReadyH.nil
      ·go_simp
       clear hHeld
       refine hK.out _ _ ?_ (fun hHeld=> ?_)
       ·exact HK _ (HW2.alloc HW2.size _)
       clear hK K
       try simp only[Act.put,ae,ah,af]
       refine VG (by kernel_rfl) ?_ _
       have HF:=gu ((HM.below HW2).alloc (.cells (rC 50 ⟨(g_ m.iB).toArray⟩ 54 ⟨(g_ m.iO).toArray⟩) 151))
       have HR:=gu (G8 u2 (.cells (rC 50 ⟨(g_ m.iB).toArray⟩ 54 ⟨(g_ m.iO).toArray⟩) 151))
       clear hHeld
       go_wp2
       go_ret
       exact⟨_,rfl,HF,HR⟩
end Js
end Go.Proofs.YtbhbbeebncmaiaaGreatDoor
