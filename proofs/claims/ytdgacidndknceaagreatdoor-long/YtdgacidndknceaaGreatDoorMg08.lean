import Derived.Test.YtdgacidndknceaaGreatDoorMg05
import Derived.Test.YtdgacidndknceaaGreatDoorMg06
set_option linter.all false
set_option maxHeartbeats 2000000
set_option maxRecDepth 10000
open Go.ChangeShapes Go.WideShapes Go.ChangeAt Go.RowKit
open Go renaming World → fV
open Go.Value renaming int → Vb
open Go.IntKind renaming u8 → Vd, u16 → Ve, u32 → Vf, i64 → Vg
open Go.Proofs.Tryz
namespace Go.Proofs.YtdgacidndknceaaGreatDoor
namespace Js
open Bs
variable{w0:fV} {P:Nat→Prop} {w w':fV} {B:Nat} {m m':Mc}
def Mc.Ej(m:Mc)(a:Int):ByteArray:=WM.vE 1 m.card 0 [0,0,0,0,0,0] a
theorem Cq(op:Int)(fm:List UInt8)(hf:fm.length=6)(fi:Int)(tm:List UInt8)(ht:tm.length=6)(ti:Int):(WM.vE op fm fi tm ti).size<=1500:=by
 unfold WM.vE
 split
 ·show(WM.GJ op fm fi tm ti).toArray.size<=1500
  simp[WM.GJ,iy,g_,iY,hf,ht]
 ·decide
def Mc.ask(m:Mc)(a:Int):Mc:=m.send [255,255,255,255,255,255] 2054 (m.Ej a)
theorem NN{u:fV}{g:Nat}{t:TypeId}{b0 b1 b2 b3 b4 b5 b6 b7 b8 b9 b10 b11 b12 b13 b14:Value}(h:u.heap[g]?=some (.cells #[b0,b1,b2,b3,b4,b5,b6,b7,b8,b9,b10,b11,b12,b13,b14] t (0,0))):
  u.cell? (a_ g 0)=some b0/\u.cell? (a_ g 1)=some b1/\u.cell? (a_ g 2)=some b2/\u.cell? (a_ g 3)=some b3/\u.cell? (a_ g 4)=some b4/\u.cell? (a_ g 5)=some b5/\u.cell? (a_ g 6)=some b6/\u.cell? (a_ g 7)=some b7/\u.cell? (a_ g 8)=some b8/\u.cell? (a_ g 9)=some b9/\u.cell? (a_ g 10)=some b10/\u.cell? (a_ g 11)=some b11/\u.cell? (a_ g 12)=some b12/\u.cell? (a_ g 13)=some b13/\u.cell? (a_ g 14)=some b14:=by
 have q:=fun j=>dh u g j _ _ _ h
 exact⟨q 0,q 1,q 2,q 3,q 4,q 5,q 6,q 7,q 8,q 9,q 10,q 11,q 12,q 13,q 14⟩
theorem DW(h:Mx w0 P w B m)(hst:m.st<4)(a:Int)(ha:0<=a/\a<=4294967295):Calls prog 135 #[p_ B,Vb Vf a] w fun ee w'=>ee=.returned (.tuple #[])/\Mx w0 P w' B (m.ask a):=by
 have hz:=Cq 1 m.card rfl 0 [0,0,0,0,0,0] rfl a
 have HAD:Hid (∀u,Mx w0 P u B m->Calls prog 47 #[p_ B] u fun e w'=>e=.returned (Vb Vf 0)/\w'=u):=M0 (fun u hu=>by have r:=lL hu;rw[show m.addr=0 from by unfold Mc.addr;rw[ay hst]]at r;exact r)
 have HWA:Hid (∀u,Calls prog 64 #[.agg (rE 1 m.k0.toNat m.k1.toNat m.k2.toNat m.k3.toNat m.k4.toNat m.k5.toNat 0 0 0 0 0 0 0 a)] u fun ee w'=>ee=.returned (.tuple #[.string (m.Ej a),Vb Vg (WM.Bu 1)])/\Below u.heap.size u w'):=M0 (fun u=>WM.lq 1 m.k0 m.k1 m.k2 m.k3 m.k4 m.k5 0 0 0 0 0 0 0 a u (by decide) (by decide) (by decide) (by decide) ha.1 ha.2)
 have HSD:Hid (∀(w0:fV) (P:Nat->Prop) (u:fV),Mx w0 P u B m->Calls prog 174 #[p_ B,.agg (rT 255 255 255 255 255 255),Vb Ve 2054,.string (m.Ej a)] u fun ee w'=>ee=.returned (.tuple #[])/\Mx w0 P w' B (m.ask a)):=M0 (fun w0 P u hu=>sP hu 255 255 255 255 255 255 2054 (m.Ej a) (by decide) (by decide) (aG hz (by decide)))
 have HM:=M0 h
 have HK:Hid (∀u,Below w.heap.size w u->u.cell? (a_ B 1)=some (Vb Vd m.k0.toNat)/\u.cell? (a_ B 2)=some (Vb Vd m.k1.toNat)/\u.cell? (a_ B 3)=some (Vb Vd m.k2.toNat)/\u.cell? (a_ B 4)=some (Vb Vd m.k3.toNat)/\u.cell? (a_ B 5)=some (Vb Vd m.k4.toNat)/\u.cell? (a_ B 6)=some (Vb Vd m.k5.toNat)):=M0 (fun u hb=>⟨(h.below hb).c1,(h.below hb).c2,(h.below hb).c3,(h.below hb).c4,(h.below hb).c5,(h.below hb).c6⟩)
 have hlt:=h.lt
 obtain⟨AB,hAB⟩:∃AB,AB=m.Ej a:=⟨_,rfl⟩
 obtain⟨ke,hke⟩:∃ke,ke=WM.Bu 1:=⟨_,rfl⟩
 rw[<-hAB]at HWA HSD
 rw[<-hke]at HWA
 clear h hst ha hz hAB hke
 go_enter func135,ntmps135
 go_wp2
 go_cut [4] (fun s4 wc=>s4=(p_ w.heap.size)/\Hid (Mx w0 P wc B m/\wc.heap[w.heap.size]?=some (.cells (rE 1 m.k0.toNat m.k1.toNat m.k2.toNat m.k3.toNat m.k4.toNat m.k5.toNat 0 0 0 0 0 0 0 a) 87 (0,0))))
 case first=>
  go_region_held3 (fun u=>u.cell? (a_ B 1)=some (Vb Vd m.k0.toNat)/\u.cell? (a_ B 2)=some (Vb Vd m.k1.toNat)/\u.cell? (a_ B 3)=some (Vb Vd m.k2.toNat)/\u.cell? (a_ B 4)=some (Vb Vd m.k3.toNat)/\u.cell? (a_ B 5)=some (Vb Vd m.k4.toNat)/\u.cell? (a_ B 6)=some (Vb Vd m.k5.toNat)) (exact HK _ (by(repeat (first|exact R9 _ _|(refine VH ?_)|(refine VL ?_ (by first|(simp;done)|(simp;omega)) _)))))
   (first|(go_at_call 47;refine bE (HAD _ ?_) ?_;exact HM.below (by(repeat (first|exact R9 _ _|(refine VH ?_)|(refine VL ?_ (by first|(simp;done)|(simp;omega)) _))));rintro ee u2 ⟨rfl,rfl⟩))
  all_goals go_wp2
  all_goals go_meet
  all_goals exact⟨rfl,M0 ⟨HM.below (by(repeat (first|exact R9 _ _|(refine VH ?_)|(refine VL ?_ (by first|(simp;done)|(simp;omega)) _)))),G8 w _⟩⟩
 case rest=>
  rename fV=>x
  obtain⟨rfl,HC⟩:=hcut
  have HX:=M0 HC.1
  have HR:=M0 HC.2
  have HKS:Hid (∀u,Below x.heap.size x u->(u.cell? (a_ 2 0)=some (Vb Vd 255)/\u.cell? (a_ 2 1)=some (Vb Vd 255)/\u.cell? (a_ 2 2)=some (Vb Vd 255)/\u.cell? (a_ 2 3)=some (Vb Vd 255)/\u.cell? (a_ 2 4)=some (Vb Vd 255)/\u.cell? (a_ 2 5)=some (Vb Vd 255))/\(u.cell? (a_ w.heap.size 0)=some (Vb Ve 1)/\u.cell? (a_ w.heap.size 1)=some (Vb Vd m.k0.toNat)/\u.cell? (a_ w.heap.size 2)=some (Vb Vd m.k1.toNat)/\u.cell? (a_ w.heap.size 3)=some (Vb Vd m.k2.toNat)/\u.cell? (a_ w.heap.size 4)=some (Vb Vd m.k3.toNat)/\u.cell? (a_ w.heap.size 5)=some (Vb Vd m.k4.toNat)/\u.cell? (a_ w.heap.size 6)=some (Vb Vd m.k5.toNat)/\u.cell? (a_ w.heap.size 7)=some (Vb Vf 0)/\u.cell? (a_ w.heap.size 8)=some (Vb Vd 0)/\u.cell? (a_ w.heap.size 9)=some (Vb Vd 0)/\u.cell? (a_ w.heap.size 10)=some (Vb Vd 0)/\u.cell? (a_ w.heap.size 11)=some (Vb Vd 0)/\u.cell? (a_ w.heap.size 12)=some (Vb Vd 0)/\u.cell? (a_ w.heap.size 13)=some (Vb Vd 0)/\u.cell? (a_ w.heap.size 14)=some (Vb Vf a))):=M0 (fun u hb=>⟨(HX.below hb).YK,NN ((hb.block w.heap.size (Vj HR)).trans HR)⟩)
  have HFOOT:Hid (¬iq B m w.heap.size/\w0.heap.size<=w.heap.size):=M0 ⟨fun hf=>by have:=HM.ik hf;omega,HM.size⟩
  clear HK HAD hlt HC
  go_wp2
  go_region_held3 (fun u=>(u.cell? (a_ 2 0)=some (Vb Vd 255)/\u.cell? (a_ 2 1)=some (Vb Vd 255)/\u.cell? (a_ 2 2)=some (Vb Vd 255)/\u.cell? (a_ 2 3)=some (Vb Vd 255)/\u.cell? (a_ 2 4)=some (Vb Vd 255)/\u.cell? (a_ 2 5)=some (Vb Vd 255))/\(u.cell? (a_ w.heap.size 0)=some (Vb Ve 1)/\u.cell? (a_ w.heap.size 1)=some (Vb Vd m.k0.toNat)/\u.cell? (a_ w.heap.size 2)=some (Vb Vd m.k1.toNat)/\u.cell? (a_ w.heap.size 3)=some (Vb Vd m.k2.toNat)/\u.cell? (a_ w.heap.size 4)=some (Vb Vd m.k3.toNat)/\u.cell? (a_ w.heap.size 5)=some (Vb Vd m.k4.toNat)/\u.cell? (a_ w.heap.size 6)=some (Vb Vd m.k5.toNat)/\u.cell? (a_ w.heap.size 7)=some (Vb Vf 0)/\u.cell? (a_ w.heap.size 8)=some (Vb Vd 0)/\u.cell? (a_ w.heap.size 9)=some (Vb Vd 0)/\u.cell? (a_ w.heap.size 10)=some (Vb Vd 0)/\u.cell? (a_ w.heap.size 11)=some (Vb Vd 0)/\u.cell? (a_ w.heap.size 12)=some (Vb Vd 0)/\u.cell? (a_ w.heap.size 13)=some (Vb Vd 0)/\u.cell? (a_ w.heap.size 14)=some (Vb Vf a))) (first|exact HKS _ ((R9 _ _).drew)|exact HKS _ HB1|exact⟨H3.YK,NN ((H3.kept w.heap.size (Vj HR) HFOOT.1).trans HR)⟩)
   (first|(go_at_call 64;refine(HWA _).mono ?_;rintro ee u1 ⟨rfl,hb1⟩;have HB1:=M0 (((R9 x.heap.size x).drew).trans hb1);clear hb1)|(go_at_call 175;refine(WQ _ _ _).mono ?_;rintro ee u2 ⟨rfl,rfl⟩)|(go_at_call 174;refine(HSD x (iq B m) _ (HX.base.below HB1)).mono ?_;rintro ee u3 ⟨rfl,h3⟩;have H3:=M0 h3;clear h3))
  go_wp2
  go_end0
  exact⟨rfl,HX.join H3⟩
end Js
end Go.Proofs.YtdgacidndknceaaGreatDoor
