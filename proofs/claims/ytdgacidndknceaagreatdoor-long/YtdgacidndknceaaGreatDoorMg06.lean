import Derived.Test.YtdgacidndknceaaGreatDoorMg04
set_option linter.all false
set_option maxHeartbeats 2000000
set_option maxRecDepth 10000
open Go.ChangeShapes Go.WideShapes Go.ChangeAt Go.RowKit
open Go renaming Calls → f_
open Go.RowKit renaming Below → gm
open Go.Value renaming int → Vb
open Go.IntKind renaming u8 → Vd, u16 → Ve, u32 → Vf, i64 → Vg
open Go.Proofs.Tryz
namespace Go.Proofs.YtdgacidndknceaaGreatDoor
namespace Js
open Bs
open Dh (gU gT jM kr iV ib lM heavy)
variable{w0:World} {P:Nat→Prop} {w w':World} {B:Nat} {m m':Mc}
def Mc.qD(m:Mc):gU:=[(50,g_ m.iB),(54,g_ m.iO)]
theorem yu(h:Mx w0 P w B m)(ho:m.Ok):f_ prog 139 #[p_ B] w fun ee w'=>∃g,ee=.returned (.slice (some (a_ g 0)) 2 2)/\Mx w0 P w' B m/\w'.heap[g]?=some (.cells (gT m.qD).toArray 138 (0,0)):=by
 have HM:=M0 h
 have HO:=M0 ho
 have HK:Hid (∀u,gm w.heap.size w u->u.cell? (a_ B 27)=some (Vb Vf m.iB)/\u.cell? (a_ B 28)=some (Vb Vf m.iO)):=M0 (fun u hb=>⟨(h.below hb).uF,(h.below hb).c28⟩)
 have hlt:=h.lt
 clear h ho
 go_enter func139,ntmps139
 go_wp2
 refine wp_region_held_drew (S:=fun u=>u.cell? (a_ B 27)=some (Vb Vf m.iB)/\u.cell? (a_ B 28)=some (Vb Vf m.iO)) (by kernel_rfl) (HK _ ((R9 _ _).drew)) (fun hHeld=> ?_)
 refine tkH_ (i:=0) (v:=(p_ B)) rfl (by kernel_rfl) (fun _ _ _ h=>h) (au ⟨by rfl,?_⟩) hHeld ?_
 ·(intro wz hSz;(try dsimp only at hSz);go_simp)
 try simp only[Act.put,ae,ah,af]
 refine tkH_ (i:=1) (v:=(p_ B)) rfl (by kernel_rfl) (fun _ _ _ h=>h) (au ⟨by rfl,?_⟩) hHeld ?_
 ·(intro wz hSz;(try dsimp only at hSz);go_simp)
 try simp only[Act.put,ae,ah,af]
 refine Vo (i:=2) (v:=(.pointer (some (a_ B 25)))) rfl (by kernel_rfl) (by kernel_rfl) (by kernel_rfl) (fun _ _ _ h=>h) (au ⟨by rfl,?_⟩) hHeld ?_
 ·(intro wz hSz;(try dsimp only at hSz);go_simp)
 try simp only[Act.put,ae,ah,af]
 refine Vo (i:=3) (v:=(.pointer (some (a_ B 27)))) rfl (by kernel_rfl) (by kernel_rfl) (by kernel_rfl) (fun _ _ _ h=>h) (au ⟨by rfl,?_⟩) hHeld ?_
 ·(intro wz hSz;(try dsimp only at hSz);go_simp)
 try simp only[Act.put,ae,ah,af]
 refine tkH_ (i:=4) (v:=(Vb Vf m.iB)) rfl (by kernel_rfl) (fun _ _ _ h=>h) (au ⟨by rfl,?_⟩) hHeld ?_
 ·(intro wz hSz;(try dsimp only at hSz);go_simp)
 try simp only[Act.put,ae,ah,af]
 refine tkH_ (i:=7) (v:=(p_ B)) rfl (by kernel_rfl) (fun _ _ _ h=>h) (au ⟨by rfl,?_⟩) hHeld ?_
 ·(intro wz hSz;(try dsimp only at hSz);go_simp)
 try simp only[Act.put,ae,ah,af]
 refine tkH_ (i:=8) (v:=(p_ B)) rfl (by kernel_rfl) (fun _ _ _ h=>h) (au ⟨by rfl,?_⟩) hHeld ?_
 ·(intro wz hSz;(try dsimp only at hSz);go_simp)
 try simp only[Act.put,ae,ah,af]
 refine Vo (i:=9) (v:=(.pointer (some (a_ B 25)))) rfl (by kernel_rfl) (by kernel_rfl) (by kernel_rfl) (fun _ _ _ h=>h) (au ⟨by rfl,?_⟩) hHeld ?_
 ·(intro wz hSz;(try dsimp only at hSz);go_simp)
 try simp only[Act.put,ae,ah,af]
 refine Vo (i:=10) (v:=(.pointer (some (a_ B 28)))) rfl (by kernel_rfl) (by kernel_rfl) (by kernel_rfl) (fun _ _ _ h=>h) (au ⟨by rfl,?_⟩) hHeld ?_
 ·(intro wz hSz;(try dsimp only at hSz);go_simp)
 try simp only[Act.put,ae,ah,af]
 refine tkH_ (i:=11) (v:=(Vb Vf m.iO)) rfl (by kernel_rfl) (fun _ _ _ h=>h) (au ⟨by rfl,?_⟩) hHeld ?_
 ·(intro wz hSz;(try dsimp only at hSz);go_simp)
 try simp only[Act.put,ae,ah,af]
 refine wpAnyH_ready (rs:=[5,12]) (by kernel_rfl) (by simp) ?_
 refine AllReadyH.cons rfl (fun K hK=> ?_) (AllReadyH.cons rfl (fun K hK=> ?_) AllReadyH.nil)
 ·go_simp
  clear hHeld
  refine hK.out _ _ ?_ (fun hHeld=> ?_)
  ·exact HK _ (by(repeat (first|exact R9 _ _|(refine VH ?_)|(refine VL ?_ (by first|(simp;done)|(simp;omega)) _))))
  clear hK K
  try simp only[Act.put,ae,ah,af]
  refine wpAnyH_ready (rs:=[6,12]) (by kernel_rfl) (by simp) ?_
  refine AllReadyH.cons rfl (fun K hK=> ?_) (AllReadyH.cons rfl (fun K hK=> ?_) AllReadyH.nil)
  ·go_simp
   refine bE (jJ 50 m.iB w.heap.size _ (G8 w (.cells #[Vb Vf m.iB] 36)) HO.iB) ?_
   rintro ee u1 ⟨rfl,hb1⟩
   have hw1:gm w.heap.size w u1:=VK (by(repeat (first|exact R9 _ _|(refine VH ?_)|(refine VL ?_ (by first|(simp;done)|(simp;omega)) _)))) (hb1.mono (by first|(simp;done)|(simp;omega)))
   have HW1:=M0 hw1
   clear hb1 hw1
   go_wp2_with fail
   clear hHeld
   refine hK.out _ _ ?_ (fun hHeld=> ?_)
   ·exact HK _ HW1
   clear hK K
   try simp only[Act.put,ae,ah,af]
   refine wpAnyH_ready (rs:=[12]) (by kernel_rfl) (by simp) ?_
   refine AllReadyH.cons rfl (fun K hK=> ?_) AllReadyH.nil
   ·go_simp
    clear hHeld
    refine hK.out _ _ ?_ (fun hHeld=> ?_)
    ·exact HK _ (HW1.alloc HW1.size _)
    clear hK K
    try simp only[Act.put,ae,ah,af]
    refine wpAnyH_ready (rs:=[13]) (by kernel_rfl) (by simp) ?_
    refine AllReadyH.cons rfl (fun K hK=> ?_) AllReadyH.nil
    ·go_simp
     refine bE (jJ 54 m.iO u1.heap.size _ (G8 u1 (.cells #[Vb Vf m.iO] 36)) HO.iO) ?_
     rintro ee u2 ⟨rfl,hb2⟩
     have hw2:gm w.heap.size w u2:=VK (HW1.alloc HW1.size _) (hb2.mono (by have:=HW1.size;first|omega|(simp;omega)))
     have HW2:=M0 hw2
     clear hb2 hw2
     go_wp2_with fail
     clear hHeld
     refine hK.out _ _ ?_ (fun hHeld=> ?_)
     ·exact HK _ HW2
     clear hK K
     try simp only[Act.put,ae,ah,af]
     refine wpAnyH_ready (rs:=[14]) (by kernel_rfl) (by simp) ?_
     refine AllReadyH.cons rfl (fun K hK=> ?_) AllReadyH.nil
     ·go_simp
      clear hHeld
      refine hK.out _ _ ?_ (fun hHeld=> ?_)
      ·exact HK _ (HW2.alloc HW2.size _)
      clear hK K
      try simp only[Act.put,ae,ah,af]
      refine wpAnyH_ready (rs:=[15]) (by kernel_rfl) (by simp) ?_
      refine AllReadyH.cons rfl (fun K hK=> ?_) AllReadyH.nil
      ·go_simp
       clear hHeld
       refine hK.out _ _ ?_ (fun hHeld=> ?_)
       ·exact HK _ (HW2.alloc HW2.size _)
       clear hK K
       try simp only[Act.put,ae,ah,af]
       refine VG (by kernel_rfl) ?_ _
       have HF:=M0 ((HM.below HW2).alloc (.cells #[Vb Vd 50,.string ⟨(g_ m.iB).toArray⟩,Vb Vd 54,.string ⟨(g_ m.iO).toArray⟩] 138))
       have HR:=M0 (G8 u2 (.cells #[Vb Vd 50,.string ⟨(g_ m.iB).toArray⟩,Vb Vd 54,.string ⟨(g_ m.iO).toArray⟩] 138))
       clear hHeld
       go_wp2
       go_ret
       exact⟨_,rfl,HF,HR⟩
  ·go_simp
   clear hHeld
   refine hK.out _ _ ?_ (fun hHeld=> ?_)
   ·exact HK _ (by(repeat (first|exact R9 _ _|(refine VH ?_)|(refine VL ?_ (by first|(simp;done)|(simp;omega)) _))))
   clear hK K
   try simp only[Act.put,ae,ah,af]
   refine wpAnyH_ready (rs:=[6]) (by kernel_rfl) (by simp) ?_
   refine AllReadyH.cons rfl (fun K hK=> ?_) AllReadyH.nil
   ·go_simp
    refine bE (jJ 50 m.iB w.heap.size _ (nA w (.cells #[Vb Vf m.iB] 36) (.cells #[Vb Vf m.iO] 36)) HO.iB) ?_
    rintro ee u1 ⟨rfl,hb1⟩
    have hw1:gm w.heap.size w u1:=VK (by(repeat (first|exact R9 _ _|(refine VH ?_)|(refine VL ?_ (by first|(simp;done)|(simp;omega)) _)))) (hb1.mono (by first|(simp;done)|(simp;omega)))
    have HW1:=M0 hw1
    have HG2:Hid (u1.heap[w.heap.size+1]?=some (.cells #[Vb Vf m.iO] 36 (0,0))):=M0 ((hb1.block (w.heap.size+1) (by first|(simp;done)|(simp;omega))).trans (jq w (.cells #[Vb Vf m.iB] 36) (.cells #[Vb Vf m.iO] 36)))
    clear hb1 hw1
    go_wp2_with fail
    clear hHeld
    refine hK.out _ _ ?_ (fun hHeld=> ?_)
    ·exact HK _ HW1
    clear hK K
    try simp only[Act.put,ae,ah,af]
    refine wpAnyH_ready (rs:=[13]) (by kernel_rfl) (by simp) ?_
    refine AllReadyH.cons rfl (fun K hK=> ?_) AllReadyH.nil
    ·go_simp
     refine bE (jJ 54 m.iO (w.heap.size+1) _ HG2 HO.iO) ?_
     rintro ee u2 ⟨rfl,hb2⟩
     have hw2:gm w.heap.size w u2:=VK HW1 (hb2.mono (by have:=HW1.size;first|omega|(simp;omega)))
     have HW2:=M0 hw2
     clear hb2 hw2
     go_wp2_with fail
     clear hHeld
     refine hK.out _ _ ?_ (fun hHeld=> ?_)
     ·exact HK _ HW2
     clear hK K
     try simp only[Act.put,ae,ah,af]
     refine wpAnyH_ready (rs:=[14]) (by kernel_rfl) (by simp) ?_
     refine AllReadyH.cons rfl (fun K hK=> ?_) AllReadyH.nil
     ·go_simp
      clear hHeld
      refine hK.out _ _ ?_ (fun hHeld=> ?_)
      ·exact HK _ (HW2.alloc HW2.size _)
      clear hK K
      try simp only[Act.put,ae,ah,af]
      refine wpAnyH_ready (rs:=[15]) (by kernel_rfl) (by simp) ?_
      refine AllReadyH.cons rfl (fun K hK=> ?_) AllReadyH.nil
      ·go_simp
       clear hHeld
       refine hK.out _ _ ?_ (fun hHeld=> ?_)
       ·exact HK _ (HW2.alloc HW2.size _)
       clear hK K
       try simp only[Act.put,ae,ah,af]
       refine VG (by kernel_rfl) ?_ _
       have HF:=M0 ((HM.below HW2).alloc (.cells #[Vb Vd 50,.string ⟨(g_ m.iB).toArray⟩,Vb Vd 54,.string ⟨(g_ m.iO).toArray⟩] 138))
       have HR:=M0 (G8 u2 (.cells #[Vb Vd 50,.string ⟨(g_ m.iB).toArray⟩,Vb Vd 54,.string ⟨(g_ m.iO).toArray⟩] 138))
       clear hHeld
       go_wp2
       go_ret
       exact⟨_,rfl,HF,HR⟩
 ·go_simp
  clear hHeld
  refine hK.out _ _ ?_ (fun hHeld=> ?_)
  ·exact HK _ (by(repeat (first|exact R9 _ _|(refine VH ?_)|(refine VL ?_ (by first|(simp;done)|(simp;omega)) _))))
  clear hK K
  try simp only[Act.put,ae,ah,af]
  refine wpAnyH_ready (rs:=[5]) (by kernel_rfl) (by simp) ?_
  refine AllReadyH.cons rfl (fun K hK=> ?_) AllReadyH.nil
  ·go_simp
   clear hHeld
   refine hK.out _ _ ?_ (fun hHeld=> ?_)
   ·exact HK _ (by(repeat (first|exact R9 _ _|(refine VH ?_)|(refine VL ?_ (by first|(simp;done)|(simp;omega)) _))))
   clear hK K
   try simp only[Act.put,ae,ah,af]
   refine wpAnyH_ready (rs:=[6]) (by kernel_rfl) (by simp) ?_
   refine AllReadyH.cons rfl (fun K hK=> ?_) AllReadyH.nil
   ·go_simp
    refine bE (jJ 50 m.iB (w.heap.size+1) _ (jq w (.cells #[Vb Vf m.iO] 36) (.cells #[Vb Vf m.iB] 36)) HO.iB) ?_
    rintro ee u1 ⟨rfl,hb1⟩
    have hw1:gm w.heap.size w u1:=VK (by(repeat (first|exact R9 _ _|(refine VH ?_)|(refine VL ?_ (by first|(simp;done)|(simp;omega)) _)))) (hb1.mono (by first|(simp;done)|(simp;omega)))
    have HW1:=M0 hw1
    have HG2:Hid (u1.heap[w.heap.size]?=some (.cells #[Vb Vf m.iO] 36 (0,0))):=M0 ((hb1.block w.heap.size (by first|(simp;done)|(simp;omega))).trans (nA w (.cells #[Vb Vf m.iO] 36) (.cells #[Vb Vf m.iB] 36)))
    clear hb1 hw1
    go_wp2_with fail
    clear hHeld
    refine hK.out _ _ ?_ (fun hHeld=> ?_)
    ·exact HK _ HW1
    clear hK K
    try simp only[Act.put,ae,ah,af]
    refine wpAnyH_ready (rs:=[13]) (by kernel_rfl) (by simp) ?_
    refine AllReadyH.cons rfl (fun K hK=> ?_) AllReadyH.nil
    ·go_simp
     refine bE (jJ 54 m.iO w.heap.size _ HG2 HO.iO) ?_
     rintro ee u2 ⟨rfl,hb2⟩
     have hw2:gm w.heap.size w u2:=VK HW1 (hb2.mono (by have:=HW1.size;first|omega|(simp;omega)))
     have HW2:=M0 hw2
     clear hb2 hw2
     go_wp2_with fail
     clear hHeld
     refine hK.out _ _ ?_ (fun hHeld=> ?_)
     ·exact HK _ HW2
     clear hK K
     try simp only[Act.put,ae,ah,af]
     refine wpAnyH_ready (rs:=[14]) (by kernel_rfl) (by simp) ?_
     refine AllReadyH.cons rfl (fun K hK=> ?_) AllReadyH.nil
     ·go_simp
      clear hHeld
      refine hK.out _ _ ?_ (fun hHeld=> ?_)
      ·exact HK _ (HW2.alloc HW2.size _)
      clear hK K
      try simp only[Act.put,ae,ah,af]
      refine wpAnyH_ready (rs:=[15]) (by kernel_rfl) (by simp) ?_
      refine AllReadyH.cons rfl (fun K hK=> ?_) AllReadyH.nil
      ·go_simp
       clear hHeld
       refine hK.out _ _ ?_ (fun hHeld=> ?_)
       ·exact HK _ (HW2.alloc HW2.size _)
       clear hK K
       try simp only[Act.put,ae,ah,af]
       refine VG (by kernel_rfl) ?_ _
       have HF:=M0 ((HM.below HW2).alloc (.cells #[Vb Vd 50,.string ⟨(g_ m.iB).toArray⟩,Vb Vd 54,.string ⟨(g_ m.iO).toArray⟩] 138))
       have HR:=M0 (G8 u2 (.cells #[Vb Vd 50,.string ⟨(g_ m.iB).toArray⟩,Vb Vd 54,.string ⟨(g_ m.iO).toArray⟩] 138))
       clear hHeld
       go_wp2
       go_ret
       exact⟨_,rfl,HF,HR⟩
theorem zU(m:Mc):heavy m.qD<=1000:=by simp[heavy,Mc.qD,g_,iY,iy]
theorem Df(h:Mx w0 P w B m)(ho:m.Ok)(kb:UInt8)(hk4:kb.toNat≠4)(g:Nat)(os:gU)(hg:w.heap[g]?=some (.cells (gT os).toArray 138 (0,0)))(hl:os.length<=4)(hh:heavy os<=1000):
  f_ prog 138 #[p_ B,Vb Vd kb.toNat,.slice (some (a_ g 0)) os.length os.length] w fun ee w'=>
   ee=.returned (.tuple #[])/\Mx w0 P w' B (m.say kb os):=by
 have HS:=M0 (Io h ho kb hk4 g os hg hl hh)
 have hz:=af5 false m.gF m.addr 0 0 m.card (kY kb os)
 have HE:Hid (m.say kb os=m.Cz 68 67 (m.qz kb os)):=M0 rfl
 obtain⟨L,hL⟩:∃L,L=m.qz kb os:=⟨_,rfl⟩
 have hLz:L.size<=1472:=by rw[hL];exact hz
 rw[<-hL]at HS HE
 obtain⟨n,hn⟩:∃n,n=os.length:=⟨_,rfl⟩
 rw[<-hn]at HS ⊢
 clear h hk4 hL hz hn hg hl hh
 go_enter func138,ntmps138
 go_wp2_with fail
 refine HS.mono ?_
 rintro ee u ⟨rfl,hu⟩
 have HU:=M0 hu
 clear hu HS
 go_wp2_with fail
 refine(xP HU ho 68 67 L (by omega) (by omega) (by omega)).mono ?_
 rintro ee u2 ⟨rfl,hu2⟩
 have HU2:=M0 hu2
 clear hu2 HU
 go_wp2
 go_end0
 rw[gB HE]
 exact⟨rfl,HU2⟩
theorem Ce(h:Mx w0 P w B m)(ho:m.Ok)(hst:m.st=2)(hw:m.ws<=3):f_ prog 88 #[p_ B] w fun ee w'=>ee=.returned (.tuple #[])/\Mx w0 P w' B (m.jR.say 3 m.qD):=by
 have HM:=M0 h
 have yg:=h.yg
 have yE:=h.yE
 have HW:=M0 (wJ h ho m.ws m.wu ho.ws)
 have HO:=M0 (ho.jR hw)
 clear h
 go_enter func88,ntmps88
 go_wp2_with fail
 refine HW.mono ?_
 rintro ee u ⟨rfl,hu⟩
 have d29:=hu.yg
 have g29:=hu.free 29
 have d30:=hu.yE
 have g30:=hu.free 30
 have d25:=hu.nk
 rw[hst]at d25
 have HU:=M0 ((hu.SE (m.ws+1)).aO3 (wrap64 (m.now+m.Ez m.ws)))
 clear hu HW
 go_wp2_with fail
 refine(yu HU HO).mono ?_
 rintro ee u1 ⟨g,rfl,hu1,hg1⟩
 have HU1:=M0 hu1
 have HG1:=M0 hg1
 clear hu1 hg1 HU
 go_wp2_with fail
 refine(Df HU1 HO 3 (by decide) g m.qD HG1 (by show(2:Nat)<=4;omega) (zU m)).mono ?_
 rintro ee u2 ⟨rfl,hu2⟩
 have HU2:=M0 hu2
 clear hu2 HU1
 go_wp2
 go_end0
 exact⟨rfl,HU2⟩
def Mc.Lm(m:Mc):Mc:=if m.now<m.wu then m else if m.ws=4 then m.fail else m.jR.say 3 m.qD
theorem DX(h:Mx w0 P w B m)(ho:m.Ok)(hst:m.st=2):f_ prog 87 #[p_ B,.agg #[Vb Vg m.ws,Vb Vg m.wu],.func (.func 88) #[] #[]] w fun ee w'=>ee=.returned (.tuple #[])/\∃b,Mx w0 P w' B (m.Lm.at b):=by
 have HM:=M0 (h.alloc (.cells #[Vb Vg m.ws,Vb Vg m.wu] 107))
 have c14:=h.c14
 have hlt:=h.lt
 clear h
 by_cases h1:m.now<m.wu
 ·have HE:Hid (m.Lm=m):=M0 (by unfold Mc.Lm;rw[ay h1])
  go_enter func87,ntmps87
  go_wp2
  go_quiet (fail)
  go_wp2
  go_end0
  refine⟨rfl,m.bm,?_⟩
  rw[gB HE,mi]
  exact HM.like ⟨rfl,rfl,rfl,rfl⟩
 ·by_cases h2:m.ws=4
  ·have HE:Hid (m.Lm=m.fail):=M0 (by unfold Mc.Lm;rw[ax h1,ay h2])
   have HF:=fun(k:Nat)=>M0 (oM (w:=(w.alloc (.cells #[Vb Vg m.ws,Vb Vg m.wu] 107)).drewN k) (HM.like ⟨rfl,rfl,rfl,rfl⟩))
   clear HM
   have h2b:(m.ws==4)=true:=by simpa using h2
   rw[h2]at HF ⊢
   clear h2 h2b
   go_enter func87,ntmps87
   go_wp2
   go_quiet (fail)
   go_wp2_with fail
   refine(gB (HF _)).mono ?_
   rintro ee u ⟨rfl,b,hu⟩
   have HU:=M0 hu
   clear hu HF
   go_wp2
   go_end0
   refine⟨rfl,b,?_⟩
   rw[gB HE]
   exact HU
  ·have HE:Hid (m.Lm=m.jR.say 3 m.qD):=M0 (by unfold Mc.Lm;rw[ax h1,ax h2])
   have HF:=fun(k:Nat)=>M0 (Ce (w:=(w.alloc (.cells #[Vb Vg m.ws,Vb Vg m.wu] 107)).drewN k) (HM.like ⟨rfl,rfl,rfl,rfl⟩) ho hst (by have:=ho.ws;omega))
   clear HM
   have h2b:(m.ws==4)=false:=by simpa using h2
   clear h2
   go_enter func87,ntmps87
   go_wp2
   go_quiet (fail)
   go_wp2_with fail
   refine(gB (HF _)).mono ?_
   rintro ee u ⟨rfl,hu⟩
   have HU:=M0 hu
   clear hu HF
   go_wp2
   go_end0
   refine⟨rfl,(m.jR.say 3 m.qD).bm,?_⟩
   rw[gB HE,mi]
   exact HU
theorem Bn(h:Mx w0 P w B m)(ho:m.Ok)(hst:m.st=2):f_ prog 50 #[p_ B] w fun ee w'=>ee=.returned (.tuple #[])/\∃b,Mx w0 P w' B (m.Lm.at b):=by
 have nk:=h.nk
 rw[hst]at nk
 have yg:=h.yg
 have yE:=h.yE
 have HT:=M0 (DX h ho hst)
 clear h
 go_enter func50,ntmps50
 go_wp2_with fail
 refine HT.mono ?_
 rintro ee u ⟨rfl,b,hu⟩
 have HU:=M0 hu
 clear hu HT
 go_wp2
 go_end0
 exact⟨rfl,b,HU⟩
def Mc.oV(m:Mc):Mc:={m with st:=2,ws:=0,wu:=0}
theorem Mc.Ok.oV{m:Mc}(h:m.Ok):m.oV.Ok:=by
 obtain⟨a1,a2,a3,a4,a5,a6,a7,a8,a9,a10,a11,a12,a13,a14,a15,a16⟩:=h
 exact⟨a1,a2,a3,a4,a5,by show(0:Int)<=0/\(0:Int)<=4;omega,a7,a8,a9,a10,a11,a12,a13,a14,a15,a16⟩
theorem au5(h:Mx w0 P w B m)(ho:m.Ok):f_ prog 86 #[p_ B,Vb Vg 2] w fun ee w'=>ee=.returned (.tuple #[])/\Mx w0 P w' B (m.oV.jR.say 3 m.qD):=by
 have nk:=h.nk
 have f25:=h.free 25
 have yg:=h.yg
 have f29:=h.free 29
 have yE:=h.yE
 have f30:=h.free 30
 have HM:=M0 (((h.TN 2).SE 0).aO3 0)
 clear h
 go_enter func86,ntmps86
 go_wp2_with fail
 refine(Ce (m:=m.oV) HM ho.oV rfl (by show(0:Int)<=3;omega)).mono ?_
 rintro ee u ⟨rfl,hu⟩
 have HU:=M0 hu
 clear hu HM
 go_wp2
 go_end0
 exact⟨rfl,HU⟩
end Js
end Go.Proofs.YtdgacidndknceaaGreatDoor
