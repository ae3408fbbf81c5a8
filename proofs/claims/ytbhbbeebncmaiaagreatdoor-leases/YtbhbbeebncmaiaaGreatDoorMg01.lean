import Derived.Test.YtbhbbeebncmaiaaGreatDoorMg00
import Derived.Test.YtbhbbeebncmaiaaGreatDoorMg02
import Derived.Handy
set_option linter.all false
set_option maxHeartbeats 1000000
open Go.ChangeShapes Go.WideShapes Go.ChangeAt Go.RowKit
open Go renaming World → fV, Calls → f_
open Go.Proofs.Tryz renaming prog → Vh
open Go.Value renaming int → Vb
open Go.IntKind renaming u8 → Vd, u16 → Ve, u32 → Vf, i64 → Vg
open Go.Proofs.Tryz
namespace Go.Proofs.YtbhbbeebncmaiaaGreatDoor
namespace Js
open Bs
variable{w0:fV} {P:Nat→Prop} {w w':fV} {B:Nat} {m m':Mc}
theorem oI(s:ByteArray)(k:Int)(w:fV):f_ Vh 150 #[.string s,Vb Vg k] w fun e w'=>e=.returned (.string s)/\w'=w:=by
 go_enter func150,ntmps150
 go_wp2
 go_ret
 exact⟨rfl,rfl⟩
def Mc.addr(m:Mc):Int:=if m.st<4 then 0 else m.iB
theorem lL(h:Mx w0 P w B m):f_ Vh 74 #[p_ B] w fun e w'=>e=.returned (Vb Vf m.addr)/\w'=w:=by
 have nk:=h.nk
 have uF:=h.uF
 by_cases hs:m.st<4
 ·have e:m.addr=0:=by unfold Mc.addr;rw[ay hs]
  rw[e]
  go_enter func74,ntmps74
  go_wp2
  go_ret
  exact⟨rfl,rfl⟩
 ·have e:m.addr=m.iB:=by unfold Mc.addr;rw[ax hs]
  rw[e]
  clear e
  go_enter func74,ntmps74
  go_wp2
  go_ret
  exact⟨rfl,rfl⟩
def Mc.ended(m:Mc):Bool:=m.phase==3||m.phase==4
theorem t_(h:Mx w0 P w B m):f_ Vh 53 #[p_ B] w fun e w'=>e=.returned (.bool m.ended)/\w'=w:=by
 have c40:=h.c40
 unfold Mc.ended
 go_enter func53,ntmps53
 go_wp2
 all_goals
  go_ret
  simp_all
def Mc.card(m:Mc):List UInt8:=[m.k0,m.k1,m.k2,m.k3,m.k4,m.k5]
def Mc.send(m:Mc)(t:List UInt8)(ty:Int)(load:ByteArray):Mc:=m.sent (og.ni (t++m.card) ty load)
theorem sP(h:Mx w0 P w B m)(a b c d e f:UInt8)(ty:Int)(load:ByteArray)(h1:0<=ty)(h2:ty<=65535)(h3:load.size<=262144):
  f_ Vh 149 #[p_ B,.agg (rS a.toNat b.toNat c.toNat d.toNat e.toNat f.toNat),Vb Ve ty,.string load] w fun ee w'=>
   ee=.returned (.tuple #[])/\Mx w0 P w' B (m.send [a,b,c,d,e,f] ty load):=by
 obtain⟨W,hW⟩:∃W,W=w.alloc (.cells (rS a.toNat b.toNat c.toNat d.toNat e.toNat f.toNat) 26):=⟨_,rfl⟩
 have HM:=gu (h.alloc (.cells (rS a.toNat b.toNat c.toNat d.toNat e.toNat f.toNat) 26))
 have c1:=h.c1
 have c2:=h.c2
 have c3:=h.c3
 have c4:=h.c4
 have c5:=h.c5
 have c6:=h.c6
 have hlt:=h.lt
 have HW:=fun u=>gu (og.lq a b c d e f m.k0 m.k1 m.k2 m.k3 m.k4 m.k5 ty load u h1 h2 h3)
 have HS:Hid (m.send [a,b,c,d,e,f] ty load=m.sent (og.ni [a,b,c,d,e,f,m.k0,m.k1,m.k2,m.k3,m.k4,m.k5] ty load)):=gu rfl
 clear h
 go_enter func149,ntmps149
 go_wp2
 go_region_held3 (fun u=>u.cell? (a_ w.heap.size 0)=some (Vb Vd a.toNat)/\u.cell? (a_ w.heap.size 1)=some (Vb Vd b.toNat)/\u.cell? (a_ w.heap.size 2)=some (Vb Vd c.toNat)/\u.cell? (a_ w.heap.size 3)=some (Vb Vd d.toNat)/\u.cell? (a_ w.heap.size 4)=some (Vb Vd e.toNat)/\u.cell? (a_ w.heap.size 5)=some (Vb Vd f.toNat)/\u.cell? (a_ B 1)=some (Vb Vd m.k0.toNat)/\u.cell? (a_ B 2)=some (Vb Vd m.k1.toNat)/\u.cell? (a_ B 3)=some (Vb Vd m.k2.toNat)/\u.cell? (a_ B 4)=some (Vb Vd m.k3.toNat)/\u.cell? (a_ B 5)=some (Vb Vd m.k4.toNat)/\u.cell? (a_ B 6)=some (Vb Vd m.k5.toNat)) (go_keep)
  (first|(go_at_call 189;refine(gB (HW _)).mono ?_;rintro ee u ⟨rfl,hb⟩;have hc:=rO.iF hb;have HU:=gu ((HM.drew).below hb);have d1:=HU.c1;have d2:=HU.c2;have d3:=HU.c3;have d4:=HU.c4;have d5:=HU.c5;have d6:=HU.c6)|(go_at_call 150;refine(oI _ _ _).mono ?_;rintro ee u2 ⟨rfl,rfl⟩))
 clear HM hb hc d1 d2 d3 d4 d5 d6
 go_wp2_with fail
 refine(Km HU _).mono ?_
 rintro ee w3 ⟨rfl,h4⟩
 by_cases hr:m.gq.length<m.tx
 ·rw[ay hr]at h4
  have H4:=gu h4
  have e1:decide (m.gq.length<m.tx)=true:=by simp[hr]
  rw[e1]
  have HR:=gu hr
  clear h4 e1 hr
  go_wp2
  go_end0
  refine⟨rfl,?_⟩
  rw[gB HS]
  unfold Mc.sent
  rw[ax (aB HR)]
  exact H4
 ·rw[ax hr]at h4
  have H4:=gu h4
  have kF:=h4.kF
  have f22:=h4.free 22
  have e1:decide (m.gq.length<m.tx)=false:=by simp[hr]
  rw[e1]
  have HR:=gu (show m.gq.length=m.tx from by have:=h4.goes.2.2.2.1;omega)
  clear h4 e1 hr
  go_wp2
  go_end0
  refine⟨rfl,?_⟩
  rw[gB HS]
  unfold Mc.sent
  rw[ay (gB HR)]
  exact H4.Ua _
theorem jq(w:fV)(o1 o2:Obj):((w.alloc o1).alloc o2).heap[w.heap.size+1]?=some o2:=by
 have:=G8 (w.alloc o1) o2
 simpa using this
theorem EL(w:fV)(o1:Obj)(c:Array Value)(t:TypeId)(j:Nat):((w.alloc o1).alloc (.cells c t)).frozen? (a_ (w.heap.size+1) j)=false:=by
 unfold World.frozen?
 show(match ((w.alloc o1).alloc (.cells c t)).heap[w.heap.size+1]? with|some (.cells _ _ (lo,hi))=>decide (lo<=j) && decide (j<hi)|_=>false)=false
 rw[jq]
 simp
structure Mc.Ok (m:Mc):Prop where
 draw:0<=m.draw/\m.draw<=4294967295
 id:0<=m.id/\m.id<=65535
 gF:0<=m.gF/\m.gF<=4294967295
 iB:0<=m.iB/\m.iB<=4294967295
 iO:0<=m.iO/\m.iO<=4294967295
 ws:0<=m.ws/\m.ws<=4
 mask:0<=m.mask/\m.mask<=4294967295
 yz:0<=m.yz/\m.yz<=4294967295
 FJ:0<=m.FJ/\m.FJ<=4294967295
 old:0<=m.old/\m.old<=4294967295
 iZ:0<=m.iZ/\m.iZ<=4294967295
 over:0<=m.over/\m.over<=4294967295
 fs:0<=m.fs/\m.fs<=4
 sF:0<=m.sF/\m.sF<=65535
 sT:0<=m.sT/\m.sT<=65535
 sL:m.sL.size<=262144
theorem Mc.Ok.addr{m:Mc}(h:m.Ok):0<=m.addr/\m.addr<=4294967295:=by
 unfold Mc.addr
 have:=h.iB
 split<;>omega
def Mc.lD(m:Mc)(ta f t:Int)(load:ByteArray):ByteArray:=Ip.Db m.id 64 17 m.addr ta (Ud.sH f t m.addr ta load)
def Mc.LK(m:Mc):Mc:={m with id:=IntKind.u16.wrap (m.id+1)}
theorem uq(f t fr ta:Int)(load:ByteArray):(Ud.sH f t fr ta load).size<=1480:=by
 unfold Ud.sH
 split
 ·have:(Ud.uG f t fr ta load).length=8+load.size:=by unfold Ud.uG;rw[Wt.qU];simp[Ud.si,iy,jc];omega
  show(Ud.uG f t fr ta load).toArray.size<=_
  simp;omega
 ·show(#[]:Array UInt8).size<=_;simp
theorem GU(h:Mx w0 P w B m)(ho:m.Ok)(ta f t:Int)(load:ByteArray)(hta:0<=ta/\ta<=4294967295)(hF:0<=f/\f<=65535)(hT:0<=t/\t<=65535)(hl:load.size<=262144):
  f_ Vh 157 #[p_ B,Vb Vf ta,.agg (rG f t load)] w fun ee w'=>
   ee=.returned (.string (m.lD ta f t load))/\Mx w0 P w' B m.LK:=by
 have HA:=gu (lL (h.alloc (.cells (rG f t load) 98)))
 have c23:=h.c23
 have hlt:=h.lt
 have HM:=gu h
 have HU:=fun u=>gu (Ud.lq f t m.addr ta load u hF hT ho.addr hta hl)
 obtain⟨L,hL⟩:∃L,L=Ud.sH f t m.addr ta load:=⟨_,rfl⟩
 have hLz:L.size<=1480:=by rw[hL];exact uq _ _ _ _ _
 rw[<-hL]at HU
 have HP:Hid (m.lD ta f t load=Ip.Db m.id 64 17 m.addr ta L):=gu (by unfold Mc.lD;rw[hL])
 have HI:=fun u=>gu (Ip.lq m.id 64 17 m.addr ta L u ho.id (by omega) (by omega) ho.addr hta (by omega))
 clear h hL
 go_enter func157,ntmps157
 go_wp2_with fail
 refine HA.mono ?_
 rintro ee u0 ⟨rfl,rfl⟩
 go_wp2_with fail
 refine(gB (HU _)).mono ?_
 rintro ee u1 ⟨rfl,hb⟩
 have h1:=((HM.alloc (.cells (rG f t load) 98)).alloc _).below hb
 have H1:=gu h1
 have hc:=rO.iF hb
 have d23:=h1.c23
 have f23:=h1.free 23
 have f5:u1.frozen? (a_ (w.heap.size+1) 5)=false:=by rw[hb.frozen (by simp)];exact EL _ _ _ _ _
 have hsz:=hb.size
 simp at hsz
 have HF:Hid (¬iq B m (w.heap.size+1)):=gu (fun hf=>by have:=HM.ik hf;omega)
 have HZ:=gu HM.size
 have hBn:B≠w.heap.size+1:=by omega
 clear h1 hb HU HA HM
 go_wp2_with fail
 refine(oI _ _ _).mono ?_
 rintro ee u2 ⟨rfl,rfl⟩
 go_wp2_with fail
 refine(gB (HI _)).mono ?_
 rintro ee u3 ⟨rfl,hb3⟩
 have H3:=gu (((H1.aside (a_ (w.heap.size+1) 5) (.string L) HF (aG HZ (dN _))).Uf _).below hb3)
 clear hb3 HI H1 hc
 go_wp2_with fail
 refine(oI _ _ _).mono ?_
 rintro ee u2 ⟨rfl,rfl⟩
 go_wp2
 go_ret
 rw[gB HP]
 exact⟨rfl,H3⟩
theorem Mx.kL(h:Mx w0 P w B m):w.cell? (a_ 1 0)=some (Vb Vd 255)/\w.cell? (a_ 1 1)=some (Vb Vd 255)/\w.cell? (a_ 1 2)=some (Vb Vd 255)
  /\w.cell? (a_ 1 3)=some (Vb Vd 255)/\w.cell? (a_ 1 4)=some (Vb Vd 255)/\w.cell? (a_ 1 5)=some (Vb Vd 255):=
 ⟨h.all 0 (by decide),h.all 1 (by decide),h.all 2 (by decide),h.all 3 (by decide),h.all 4 (by decide),h.all 5 (by decide)⟩
theorem Mx.old(h:Mx w0 P w B m)(k:Nat)(hk:k<w0.heap.size)(hP: ¬P k)(j:Nat):w.cell? (a_ k j)=w0.cell? (a_ k j):=Vk (h.kept k hk hP)
theorem mf(w:fV)(c:Array Value)(t:TypeId)(j:Nat):(w.alloc (.cells c t)).cell? (a_ w.heap.size j)=c[j]?:=HY _ _ j _ _ _ (G8 w _)
def Mc.Cz(m:Mc)(f t:Int)(load:ByteArray):Mc:=m.LK.send [255,255,255,255,255,255] 2048 (m.lD 4294967295 f t load)
theorem vC(m:Mc)(ta f t:Int)(load:ByteArray):(m.lD ta f t load).size<=1500:=by
 have h:=uq f t m.addr ta load
 unfold Mc.lD Ip.Db
 generalize Ud.sH f t m.addr ta load=L at h ⊢
 rw[ax (by decide),ay h]
 show(Ip.Ls _ _ _ _ _ _).toArray.size<=_
 rw[List.size_toArray,Ip.Ls,ak,Ip.jY,jc]
 omega
theorem xP(h:Mx w0 P w B m)(ho:m.Ok)(f t:Int)(load:ByteArray)(hF:0<=f/\f<=65535)(hT:0<=t/\t<=65535)(hl:load.size<=262144):
  f_ Vh 152 #[p_ B,.agg (rG f t load)] w fun ee w'=>
   ee=.returned (.tuple #[])/\Mx w0 P w' B (m.Cz f t load):=by
 have HJ:=gu (h.alloc (.cells (rG f t load) 98))
 have HB:=gu HJ.base
 have HF:Hid (¬iq B m w.heap.size):=gu (fun hf=>by have:=h.ik hf;omega)
 obtain⟨x0,x1,x2,x3,x4,x5⟩:=h.kL
 have hNG:1<w.heap.size:=aQ (show 1<9 by decide) (aG h.low.1 h.size)
 clear h
 have HK:∀(u:fV) (m2:Mc),Mx (w.alloc (.cells (rG f t load) 98)) (iq B m) u B m2->Hid (u.cell? (a_ w.heap.size 0)=some (Vb Ve f)/\u.cell? (a_ w.heap.size 1)=some (Vb Ve t)/\u.cell? (a_ w.heap.size 2)=some (.string load)):=fun u m2 hu=>gu ⟨by rw[hu.old _ (by simp) HF,mf];rfl,by rw[hu.old _ (by simp) HF,mf];rfl,by rw[hu.old _ (by simp) HF,mf];rfl⟩
 have HE:Hid (m.Cz f t load=m.LK.send [255,255,255,255,255,255] 2048 (m.lD 4294967295 f t load)):=gu rfl
 have hpz:=vC m 4294967295 f t load
 go_enter func152,ntmps152
 go_wp2
 go_region_held3 (fun u=>u.cell? (a_ w.heap.size 0)=some (Vb Ve f)/\u.cell? (a_ w.heap.size 1)=some (Vb Ve t)/\u.cell? (a_ w.heap.size 2)=some (.string load)/\u.cell? (a_ 1 0)=some (Vb Vd 255)/\u.cell? (a_ 1 1)=some (Vb Vd 255)/\u.cell? (a_ 1 2)=some (Vb Vd 255)
  /\u.cell? (a_ 1 3)=some (Vb Vd 255)/\u.cell? (a_ 1 4)=some (Vb Vd 255)/\u.cell? (a_ 1 5)=some (Vb Vd 255)) (go_keep)
  (first|(go_at_call 157;refine(GU HB.drew ho 4294967295 f t load (by omega) hF hT hl).mono ?_;rintro ee u ⟨rfl,hu⟩;obtain⟨a0,a1,a2,a3,a4,a5⟩:=hu.kL;obtain⟨b0,b1,b2⟩:=gB (HK _ _ hu);have HU:=gu hu;clear hu)|(go_at_call 149;refine(sP HU 255 255 255 255 255 255 2048 _ (by omega) (by omega) (by omega)).mono ?_;rintro ee u2 ⟨rfl,hu2⟩;obtain⟨a6,a7,a8,a9,a10,a11⟩:=hu2.kL;obtain⟨b6,b7,b8⟩:=gB (HK _ _ hu2);have HU2:=gu hu2;clear hu2))
 go_wp2
 go_end0
 refine⟨rfl,?_⟩
 rw[gB HE]
 exact HJ.join HU2
theorem mX(c:Int)(g n:Nat)(L:List UInt8)(w:fV)(hn:n=L.length)(hc:∀j (h:j<L.length),w.cell? (a_ g j)=some (Vb Vd L[j].toNat))(hg:g<w.heap.size):
  f_ Vh 196 #[Vb Vd c,.slice (some (a_ g 0)) n n] w fun e w'=>e=.returned (.agg #[Vb Vd c,.string ⟨L.toArray⟩])/\Below w.heap.size w w':=by
 subst hn
 have hcv:(convert 55 9 (.slice (some (a_ g 0)) L.length L.length)).run Vh (w.alloc (.cells #[Vb Vd 0,.string ⟨#[]⟩] 151))=.ok (.string ⟨L.toArray⟩) (w.alloc (.cells #[Vb Vd 0,.string ⟨#[]⟩] 151)):=
  VI (P:=Vh) _ 55 9 5 (a_ g 0) L.length L bu bU bI (fun j hj=>by
   rw[jB,Vk (w:=w) (Vi w _ _ hg)]
   exact hc j hj)
 clear hc
 go_enter func196,ntmps196
 go_wp2
 go_returns
 exact⟨rfl,(R9 _ _).alloc (ai _) _⟩
theorem qW{u:fV}{g:Nat}{t:TypeId}{a b:Value}(h:u.heap[g]?=some (.cells #[a,b] t (0,0)))(x y:Value):
  (u.setCell (a_ g 0) x).cell? (a_ g 0)=some x/\((u.setCell (a_ g 0) x).setCell (a_ g 1) y).cell? (a_ g 1)=some y/\((u.setCell (a_ g 0) x).setCell (a_ g 1) y).cell? (a_ g 0)=some x:=by
 have r1:=gI u 0 x h
 have r2:=gI _ 1 y r1
 exact⟨by rw[HY _ _ _ _ _ _ r1];rfl,by rw[HY _ _ _ _ _ _ r2];rfl,by rw[HY _ _ _ _ _ _ r2];rfl⟩
theorem Jh{u:fV}{g:Nat}{t:TypeId}{a b:Value}(h:u.heap[g]?=some (.cells #[a,b] t (0,0))):
  u.cell? (a_ g 0)=some a/\u.cell? (a_ g 1)=some b/\u.frozen? (a_ g 0)=false/\u.frozen? (a_ g 1)=false:=
 ⟨by rw[HY _ _ _ _ _ _ h];rfl,by rw[HY _ _ _ _ _ _ h];rfl,by simp[World.frozen?,h],by simp[World.frozen?,h]⟩
theorem nA(w:fV)(o1 o2:Obj):((w.alloc o1).alloc o2).heap[w.heap.size]?=some o1:=by
 rw[Vi _ _ _ (by simp)];exact G8 w o1
def jH:List UInt8:=[1,3,51,54,58,59]
theorem BV(w:fV):
  f_ Vh 197 #[] w fun e w'=>e=.returned (.agg #[Vb Vd 55,.string ⟨jH.toArray⟩])/\Below w.heap.size w w':=by
 have HB:=gu (mX 55 (w.heap.size+1) 6 jH ((w.alloc (.cells #[Vb Vd 0,.string ⟨#[]⟩] 151)).alloc (.cells (rS 1 3 51 54 58 59) 5)) rfl (fun j hj=>by
  rw[HY _ _ j _ _ _ (jq w _ _)]
  have:j<6:=hj
  rcases j with _|_|_|_|_|_|j<;>first|rfl|omega) (by simp))
 go_enter func197,ntmps197
 go_wp2_with fail
 refine HB.mono ?_
 rintro ee u ⟨rfl,hb⟩
 have hrow:=(hb.block w.heap.size (by simp<;>omega)).trans (nA w _ _)
 obtain⟨e0,e1,f0,f1⟩:=Jh hrow
 obtain⟨s0,s1,s2⟩:=qW hrow (Vb Vd 55) (.string ⟨jH.toArray⟩)
 have HH:=gu hb
 clear hb HB hrow
 go_wp2
 refine Vl (v:=.agg #[Vb Vd 55,.string ⟨jH.toArray⟩]) (by simp[results,results197,go_sem,s0,s1,s2]) rfl ?_
 refine⟨rfl,?_⟩
 have q:=(((R9 w.heap.size w).alloc (ai _) (.cells #[Vb Vd 0,.string ⟨#[]⟩] 151)).alloc (by simp) _).trans (HH.mono (by simp;omega))
 exact(q.setCell (ai _) _).setCell (ai _) _
end Js
namespace Wt
open Bs
theorem Bd(B bs cap:Nat)(ns:List Int)(L:List UInt8)(w:fV)(hW:Wr w B L)(hb:bs<B)
  (hsrc:w.heap[bs]?=some (.cells (ns.map (Vb Vf)).toArray 53 (0,0))) (hnr:∀n ∈ ns,0<=n/\n<=4294967295) (hsz:L.length+4*ns.length<=1099511627776):
  f_ Vh 194 #[p_ B,.slice (some (a_ bs 0)) ns.length cap] w fun e w'=>
   e=.returned (.tuple #[])/\Wr w' B (L++iA ns)/\Kept B w w':=by
 have HS:=gu hsrc
 have HN:=gu hnr
 clear hsrc hnr
 go_enter func194,ntmps194
 go_wp2
 go_loopw [8] (fun i wr=>∃k:Nat,k<=ns.length/\i=Vb Vg k/\Wr wr B (L++iA (ns.take k))/\Kept B w wr) (fun i _=>ns.length-(intOf i).toNat)
 case atStart=>exact⟨0,aN _,rfl,by simpa[iA]using hW,Kept.refl _ _⟩
 case round=>
  obtain⟨k,hk,rfl,hWr,hK⟩:=hrel
  rename fV=>wr
  by_cases hlt:k<ns.length
  ·have hsr:=(hK.below.block _ hb).trans HS
   obtain⟨n,hn⟩:∃n,ns[k]=n:=⟨_,rfl⟩
   obtain⟨hn0,hn1⟩:=HN ns[k] (bz hlt)
   rw[hn]at hn0 hn1
   have hcs:wr.cell? (a_ bs k)=some (Vb Vf n):=by
    rw[HY wr bs k _ _ _ hsr];simp[hlt,hn]
   have HT:=gu (rP ns k hlt)
   rw[hn]at HT
   have hlw:(iA (ns.take k)).length<=4*k:=by rw[oO,aT];omega
   have hB:=hWr.lt
   clear hsr hn
   have hcall:=xA B wr.heap.size 1 [n] _ _ (hWr.alloc (.cells #[Vb Vf n] 50)) hB (G8 wr _)
    (by intro x hx;simp at hx;omega) (by simp only[ak,aj,aP];omega)
   rw[show iA [n]=g_ n by simp[iA]]at hcall
   simp only[aj,aP,fB]at hcall
   have HC:=gu hcall
   clear hcall
   go_wp2_with fail
   refine HC.mono ?_
   rintro e w1 ⟨rfl,h1,h2⟩
   have H1:=gu h1
   have H2:=gu (((Kept.refl B wr).alloc (by omega) _).trans h2)
   clear h1 h2 HC hcs hWr
   go_wp2
   go_roundw
   case rel=>exact⟨k+1,by omega,by go_num,by rw[gB HT,<-bg];exact gB H1,hK.trans H2⟩
   case measure=>simp[intOf];omega
  ·have e:k=ns.length:=by omega
   subst e
   rw[aS]at hWr
   go_wp2
   go_end0
   exact⟨rfl,hWr,hK⟩
end Wt
namespace Js
open Bs
theorem jJ(c a:Int)(g:Nat)(w:fV)(hg:w.heap[g]?=some (.cells #[Vb Vf a] 53 (0,0)))(ha:0<=a/\a<=4294967295):
  f_ Vh 154 #[Vb Vd c,.slice (some (a_ g 0)) 1 1] w fun e w'=>e=.returned (.agg #[Vb Vd c,.string ⟨(g_ a).toArray⟩])/\Below w.heap.size w w':=by
 have hlt:=Vj hg
 have hwr:Wt.Wr ((w.alloc (.cells #[Vb Vd 0,.string ⟨#[]⟩] 151)).alloc (.cells #[.slice none 0 0] 240)) (w.heap.size+1) []:=by
  have:=Dh.qI (w.alloc (.cells #[Vb Vd 0,.string ⟨#[]⟩] 151))
  simpa using this
 have HC:=gu (Wt.Bd (w.heap.size+1) g 1 [a] [] _ hwr (by omega) (by rw[Vi _ _ _ (by simp;omega),Vi _ _ _ hlt];exact hg) (by intro x hx;simp at hx;omega) (by simp))
 have e8:([]:List UInt8)++iA [a]=g_ a:=by simp[iA]
 rw[e8]at HC
 clear hwr
 go_enter func154,ntmps154
 go_wp2_with fail
 refine HC.mono ?_
 rintro ee u ⟨rfl,k1,q1⟩
 have hb:=q1.below
 have hrow:=(hb.block w.heap.size (by simp<;>omega)).trans (nA w _ _)
 obtain⟨e0,e1,f0,f1⟩:=Jh hrow
 obtain⟨s0,s1,s2⟩:=qW hrow (Vb Vd c) (.string ⟨(g_ a).toArray⟩)
 have K1:=gu k1
 have HB:=gu hb
 clear k1 q1 hb HC hrow
 go_wp2_with fail
 refine(Wt.lG _ _ _ K1).mono ?_
 rintro ee u2 ⟨rfl,rfl⟩
 go_wp2
 refine Vl (v:=.agg #[Vb Vd c,.string ⟨(g_ a).toArray⟩]) (by simp[results,results154,go_sem,s0,s1,s2]) rfl ?_
 refine⟨rfl,?_⟩
 have q:=(((R9 w.heap.size w).alloc (ai _) (.cells #[Vb Vd 0,.string ⟨#[]⟩] 151)).alloc (by simp) _).trans (HB.mono (by simp))
 exact(q.setCell (ai _) _).setCell (ai _) _
end Js
end Go.Proofs.YtbhbbeebncmaiaaGreatDoor
