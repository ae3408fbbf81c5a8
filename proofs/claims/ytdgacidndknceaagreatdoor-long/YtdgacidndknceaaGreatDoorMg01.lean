import Derived.Test.YtdgacidndknceaaGreatDoorMg00
import Derived.Test.YtdgacidndknceaaGreatDoorMg22
set_option linter.all false
set_option maxHeartbeats 1000000
open Go.ChangeShapes Go.WideShapes Go.ChangeAt Go.RowKit
open Go renaming World → fV, Calls → f_
open Go.Proofs.Tryz
namespace Go.Proofs.YtdgacidndknceaaGreatDoor
namespace Js
open Bs
variable{w0:fV} {P:Nat→Prop} {w w':fV} {B:Nat} {m m':Mc}
theorem WQ(s:ByteArray)(k:Int)(w:fV):f_ prog 175 #[.string s,.int .i64 k] w fun e w'=>e=.returned (.string s)/\w'=w:=by
 go_enter func175,ntmps175
 go_wp2
 go_ret
 exact⟨rfl,rfl⟩
def Mc.addr(m:Mc):Int:=if m.st<4 then 0 else m.iB
theorem lL(h:Mx w0 P w B m):f_ prog 47 #[p_ B] w fun e w'=>e=.returned (.int .u32 m.addr)/\w'=w:=by
 have nk:=h.nk
 have uF:=h.uF
 by_cases hs:m.st<4
 ·have e:m.addr=0:=by unfold Mc.addr;rw[ay hs]
  rw[e]
  go_enter func47,ntmps47
  go_wp2
  go_ret
  exact⟨rfl,rfl⟩
 ·have e:m.addr=m.iB:=by unfold Mc.addr;rw[ax hs]
  rw[e]
  clear e
  go_enter func47,ntmps47
  go_wp2
  go_ret
  exact⟨rfl,rfl⟩
def Mc.ended(m:Mc):Bool:=m.phase==3||m.phase==4
theorem t_(h:Mx w0 P w B m):f_ prog 48 #[p_ B] w fun e w'=>e=.returned (.bool m.ended)/\w'=w:=by
 have c40:=h.c40
 unfold Mc.ended
 go_enter func48,ntmps48
 go_wp2
 all_goals
  go_ret
  simp_all
def Mc.card(m:Mc):List UInt8:=[m.k0,m.k1,m.k2,m.k3,m.k4,m.k5]
def Mc.send(m:Mc)(t:List UInt8)(ty:Int)(load:ByteArray):Mc:=m.sent (og.ni (t++m.card) ty load)
theorem sP(h:Mx w0 P w B m)(a b c d e f:UInt8)(ty:Int)(load:ByteArray)(h1:0<=ty)(h2:ty<=65535)(h3:load.size<=262144):
  f_ prog 174 #[p_ B,.agg (rT a.toNat b.toNat c.toNat d.toNat e.toNat f.toNat),.int .u16 ty,.string load] w fun ee w'=>
   ee=.returned (.tuple #[])/\Mx w0 P w' B (m.send [a,b,c,d,e,f] ty load):=by
 obtain⟨W,hW⟩:∃W,W=w.alloc (.cells (rT a.toNat b.toNat c.toNat d.toNat e.toNat f.toNat) 30):=⟨_,rfl⟩
 have HM:=M0 (h.alloc (.cells (rT a.toNat b.toNat c.toNat d.toNat e.toNat f.toNat) 30))
 have c1:=h.c1
 have c2:=h.c2
 have c3:=h.c3
 have c4:=h.c4
 have c5:=h.c5
 have c6:=h.c6
 have hlt:=h.lt
 have HW:=fun u=>M0 (og.lq a b c d e f m.k0 m.k1 m.k2 m.k3 m.k4 m.k5 ty load u h1 h2 h3)
 have HS:Hid (m.send [a,b,c,d,e,f] ty load=m.sent (og.ni [a,b,c,d,e,f,m.k0,m.k1,m.k2,m.k3,m.k4,m.k5] ty load)):=M0 rfl
 clear h
 go_enter func174,ntmps174
 go_wp2
 go_region_held3 (fun u=>u.cell? (a_ w.heap.size 0)=some (.int .u8 a.toNat)/\u.cell? (a_ w.heap.size 1)=some (.int .u8 b.toNat)/\u.cell? (a_ w.heap.size 2)=some (.int .u8 c.toNat)/\u.cell? (a_ w.heap.size 3)=some (.int .u8 d.toNat)/\u.cell? (a_ w.heap.size 4)=some (.int .u8 e.toNat)/\u.cell? (a_ w.heap.size 5)=some (.int .u8 f.toNat)/\u.cell? (a_ B 1)=some (.int .u8 m.k0.toNat)/\u.cell? (a_ B 2)=some (.int .u8 m.k1.toNat)/\u.cell? (a_ B 3)=some (.int .u8 m.k2.toNat)/\u.cell? (a_ B 4)=some (.int .u8 m.k3.toNat)/\u.cell? (a_ B 5)=some (.int .u8 m.k4.toNat)/\u.cell? (a_ B 6)=some (.int .u8 m.k5.toNat)) (go_keep)
  (first|(go_at_call 65;refine(gB (HW _)).mono ?_;rintro ee u ⟨rfl,hb⟩;have hc:=WM.iF hb;have HU:=M0 ((HM.drew).below hb);have d1:=HU.c1;have d2:=HU.c2;have d3:=HU.c3;have d4:=HU.c4;have d5:=HU.c5;have d6:=HU.c6)|(go_at_call 175;refine(WQ _ _ _).mono ?_;rintro ee u2 ⟨rfl,rfl⟩))
 clear HM hb hc d1 d2 d3 d4 d5 d6
 go_wp2_with fail
 refine(Km HU _).mono ?_
 rintro ee w3 ⟨rfl,h4⟩
 by_cases hr:m.gq.length<m.tx
 ·rw[ay hr]at h4
  have H4:=M0 h4
  have e1:decide (m.gq.length<m.tx)=true:=by simp[hr]
  rw[e1]
  have HR:=M0 hr
  clear h4 e1 hr
  go_wp2
  go_end0
  refine⟨rfl,?_⟩
  rw[gB HS]
  unfold Mc.sent
  rw[ax (eG HR)]
  exact H4
 ·rw[ax hr]at h4
  have H4:=M0 h4
  have kF:=h4.kF
  have f22:=h4.free 22
  have e1:decide (m.gq.length<m.tx)=false:=by simp[hr]
  rw[e1]
  have HR:=M0 (show m.gq.length=m.tx from by have:=h4.goes.2.2.2.1;omega)
  clear h4 e1 hr
  go_wp2
  go_end0
  refine⟨rfl,?_⟩
  rw[gB HS]
  unfold Mc.sent
  rw[ay (gB HR)]
  exact H4.Ua _
theorem jq(w:fV)(o1 o2:Obj):((w.alloc o1).alloc o2).heap[w.heap.size+1]?=some o2:=by
 have:=G8 (w.alloc o1) o2
 simpa using this
theorem EL(w:fV)(o1:Obj)(c:Array Value)(t:TypeId)(j:Nat):((w.alloc o1).alloc (.cells c t)).frozen? (a_ (w.heap.size+1) j)=false:=by
 unfold World.frozen?
 show(match ((w.alloc o1).alloc (.cells c t)).heap[w.heap.size+1]? with|some (.cells _ _ (lo,hi))=>decide (lo<=j) && decide (j<hi)|_=>false)=false
 rw[jq]
 simp
structure Mc.Ok (m:Mc):Prop where
 draw:0<=m.draw/\m.draw<=4294967295
 id:0<=m.id/\m.id<=65535
 gF:0<=m.gF/\m.gF<=4294967295
 iB:0<=m.iB/\m.iB<=4294967295
 iO:0<=m.iO/\m.iO<=4294967295
 ws:0<=m.ws/\m.ws<=4
 mask:0<=m.mask/\m.mask<=4294967295
 yz:0<=m.yz/\m.yz<=4294967295
 FJ:0<=m.FJ/\m.FJ<=4294967295
 old:0<=m.old/\m.old<=4294967295
 iZ:0<=m.iZ/\m.iZ<=4294967295
 over:0<=m.over/\m.over<=4294967295
 fs:0<=m.fs/\m.fs<=4
 sF:0<=m.sF/\m.sF<=65535
 sT:0<=m.sT/\m.sT<=65535
 sL:m.sL.size<=262144
theorem Mc.Ok.addr{m:Mc}(h:m.Ok):0<=m.addr/\m.addr<=4294967295:=by
 unfold Mc.addr
 have:=h.iB
 split<;>omega
def Mc.lD(m:Mc)(ta f t:Int)(load:ByteArray):ByteArray:=Ip.Db m.id 64 17 m.addr ta (Ud.sH f t m.addr ta load)
def Mc.Ww(m:Mc):Mc:={m with id:=IntKind.u16.wrap (m.id+1)}
theorem WI(f t fr ta:Int)(load:ByteArray):(Ud.sH f t fr ta load).size<=1480:=by
 unfold Ud.sH
 split
 ·have:(Ud.uG f t fr ta load).length=8+load.size:=by unfold Ud.uG;rw[Wt.qU];simp[Ud.si,iy,jc];omega
  show(Ud.uG f t fr ta load).toArray.size<=_
  simp;omega
 ·show(#[]:Array UInt8).size<=_;simp
theorem GU(h:Mx w0 P w B m)(ho:m.Ok)(ta f t:Int)(load:ByteArray)(hta:0<=ta/\ta<=4294967295)(hF:0<=f/\f<=65535)(hT:0<=t/\t<=65535)(hl:load.size<=262144):
  f_ prog 181 #[p_ B,.int .u32 ta,.agg (rU f t load)] w fun ee w'=>
   ee=.returned (.string (m.lD ta f t load))/\Mx w0 P w' B m.Ww:=by
 have HA:=M0 (lL (h.alloc (.cells (rU f t load) 69)))
 have c23:=h.c23
 have hlt:=h.lt
 have HM:=M0 h
 have HU:=fun u=>M0 (Ud.lq f t m.addr ta load u hF hT ho.addr hta hl)
 obtain⟨L,hL⟩:∃L,L=Ud.sH f t m.addr ta load:=⟨_,rfl⟩
 have hLz:L.size<=1480:=by rw[hL];exact WI _ _ _ _ _
 rw[<-hL]at HU
 have HP:Hid (m.lD ta f t load=Ip.Db m.id 64 17 m.addr ta L):=M0 (by unfold Mc.lD;rw[hL])
 have HI:=fun u=>M0 (Ip.lq m.id 64 17 m.addr ta L u ho.id (by omega) (by omega) ho.addr hta (by omega))
 clear h hL
 go_enter func181,ntmps181
 go_wp2_with fail
 refine HA.mono ?_
 rintro ee u0 ⟨rfl,rfl⟩
 go_wp2_with fail
 refine(gB (HU _)).mono ?_
 rintro ee u1 ⟨rfl,hb⟩
 have h1:=((HM.alloc (.cells (rU f t load) 69)).alloc _).below hb
 have H1:=M0 h1
 have hc:=WM.iF hb
 have d23:=h1.c23
 have f23:=h1.free 23
 have f5:u1.frozen? (a_ (w.heap.size+1) 5)=false:=by rw[hb.frozen (by simp)];exact EL _ _ _ _ _
 have hsz:=hb.size
 simp at hsz
 have HF:Hid (¬iq B m (w.heap.size+1)):=M0 (fun hf=>by have:=HM.ik hf;omega)
 have HZ:=M0 HM.size
 have hBn:B≠w.heap.size+1:=by omega
 clear h1 hb HU HA HM
 go_wp2_with fail
 refine(WQ _ _ _).mono ?_
 rintro ee u2 ⟨rfl,rfl⟩
 go_wp2_with fail
 refine(gB (HI _)).mono ?_
 rintro ee u3 ⟨rfl,hb3⟩
 have H3:=M0 (((H1.aside (a_ (w.heap.size+1) 5) (.string L) HF (aG HZ (dN _))).Uf _).below hb3)
 clear hb3 HI H1 hc
 go_wp2_with fail
 refine(WQ _ _ _).mono ?_
 rintro ee u2 ⟨rfl,rfl⟩
 go_wp2
 go_ret
 rw[gB HP]
 exact⟨rfl,H3⟩
end Js
end Go.Proofs.YtdgacidndknceaaGreatDoor
