import Derived.Test.YtbhbbeebncmaiaaGreatDoorMg43
import Derived.OpenShut
set_option linter.all false
set_option maxHeartbeats 8000000
set_option maxRecDepth 10000
open Go.ChangeShapes Go.WideShapes Go.ChangeAt Go.RowKit
open Go renaming World → fV, Calls → f_
open Go.RowKit renaming Below → gm
open Go.Proofs.Tryz renaming prog → Vh
open Go.Value renaming int → Vb
open Go.IntKind renaming u8 → Vd, u16 → Ve, u32 → Vf, i64 → Vg
open Go.Proofs.Tryz
namespace Go.Proofs.YtbhbbeebncmaiaaGreatDoor
namespace Op
open Bs
theorem laid:laidOutB Vh=true:=by kernel_rfl
theorem own:ownKnob prog.godebug=none:=by kernel_rfl
theorem LU:prog.cellsOf 26=6:=by kernel_rfl
theorem gY:prog.cellsOf 5=1:=by kernel_rfl
theorem zZ:prog.cellsOf 9=1:=by kernel_rfl
theorem byte_of{n:Int}(h:(Lit.int .u8 n).wf=true):∃a:UInt8,n=(a.toNat:Int):=by
 have hx:0<=n/\n<=255:=by simpa[Lit.wf,IntKind.min,IntKind.max,IntKind.signed,IntKind.bits]using h
 exact⟨UInt8.ofNat n.toNat,by simp only[fo];omega⟩
section
variable{H:Type} {enc:TypeId×Value→H} {w:fV} {base:Nat} {spare:Nat→Bool} {held:Bool} {fuel:Nat}
theorem RU(l:List Value)(h:l.length=6):∃a b c d e f,l=[a,b,c,d,e,f]:=by
 match l,h with
 |[a,b,c,d,e,f],_=>exact⟨a,b,c,d,e,f,rfl⟩
theorem Lx{cs:List Value}{x:DataW H×List MemPlace}(h:DataW.trod enc Vh w base spare held fuel 26 cs=some x):
  ∃a b c d e f:UInt8,cs=[Vb Vd a.toNat,Vb Vd b.toNat,Vb Vd c.toNat,Vb Vd d.toNat,Vb Vd e.toNat,Vb Vd f.toNat]:=by
 obtain⟨xs,m,_,_,hl,hx,hi⟩:=DataW.trod_array underlying26 h
 rw[LU]at hl
 have one:∀i (hi6:i<6),∃a:UInt8,cs[i]?=some (Vb Vd a.toNat):=by
  intro i hi6
  have h1:=hi i hi6
  rw[gY,Nat.mul_one,fe (by omega)]at h1
  obtain⟨n,e1,_,wn⟩:=dA bU h1
  obtain⟨a,rfl⟩:=byte_of wn
  refine⟨a,?_⟩
  have e2:=aZ (fun l=>l[0]?) e1
  simpa using e2
 obtain⟨c0,c1,c2,c3,c4,c5,rfl⟩:=RU cs hl
 obtain⟨a,ha⟩:=one 0 (by omega)
 obtain⟨b,hb⟩:=one 1 (by omega)
 obtain⟨c,hc⟩:=one 2 (by omega)
 obtain⟨d,hd⟩:=one 3 (by omega)
 obtain⟨e,he⟩:=one 4 (by omega)
 obtain⟨f,hf⟩:=one 5 (by omega)
 simp at ha hb hc hd he hf
 subst ha hb hc hd he hf
 exact⟨a,b,c,d,e,f,rfl⟩
end
theorem QT{H:Type}{enc:TypeId×Value->H}{fn:Func}{s:ChangeSpec}{W W':fV}{t:TypeId}{v0:Value}{d0:DataW H}{p0:List MemPlace}
  (hW:DataW.Whole enc Vh fn.params.toList s.vars false W #[v0].toList [d0] [] p0) (hp:fn.params=#[t]) (hr:fn.resultTypes=#[4]) (hv:s.vars=[])
  (hs:(s.fn H [d0]).results=[.lit (.bool true)]/\(s.fn H [d0]).args=[d0]/\(s.fn H [d0]).vars=[])
  (hread:prog.readableRec t=true) (hrow:t<prog.types.size)
  (h0:DataW.Trod enc Vh W 0 (fun _=>true) true t v0 d0 p0) (hb:gm W.heap.size W W'):
  s.post enc Vh fn false true false false W #[v0] (.bool true) W':=by
 have hlt:∀x ∈ p0,x.block<W.heap.size:=fun x hx=>by simpa using hW.lt x hx
 refine⟨[d0],[],p0,[],p0++ [],[],hW,?_,?_,?_,hb.frame _,fun h=>by cases h⟩
 ·rw[bn,hs.1,hr]
  exact trodAll_cons_mk (shut_bool underlying4 _) trodAll_mk0
 ·rw[bn,hs.2.1,hp]
  exact trodAll_cons_mk (Below.trod laid hread hrow h0 hb hlt) trodAll_mk0
 ·rw[bn,hs.2.2,hv]
  rfl
end Op
namespace Ref
open Bs Js
open Dh (gU)
variable{w0:fV} {P:Nat→Prop} {w w':fV} {G:Nat} {r r':Rf}
theorem uH(x:Int):(g_ x).length=4:=rfl
theorem M7{x:fV}(hx:Rm w0 P x G r)(hf:r.Fit)(hl:r.gK<4)(kb:UInt8)(bb:Bool)(hbb:((kb.toNat:Int)!=4)=bb)(la:Nat)(hrow:x.heap[la]?=some (.cells (rC 50 ⟨(g_ r.iB).toArray⟩ 54 ⟨(g_ r.iO).toArray⟩) 151 (0,0)))(hnf: ¬iT G r la):
  f_ Vh 62 #[p_ G,Vb Vd kb.toNat,.bool false,.slice (some (a_ la 0)) 2 2] x fun ee w'=>ee=.returned (.tuple #[])/\∃v,Rm w0 P w' G (r.jV kb r.mV v):=by
 refine(Df hx.base hl kb bb hbb hf.gF hf.tx hf.tl la 50 54 (g_ r.iB) (g_ r.iO) hrow (Vj hrow) hnf ⟨by rw[uH];decide,by rw[uH];decide⟩).mono ?_
 rintro ee u ⟨rfl,v,hu⟩
 exact⟨rfl,v,hx.join hu⟩
theorem vY(r:Rf)(kb:UInt8)(os:gU)(v:Value):(r.jV kb os v).iB=r.iB/\(r.jV kb os v).iO=r.iO:=by unfold Rf.jV Rf.mP;split<;>exact⟨rfl,rfl⟩
theorem EQ(h:Rm w0 P w G r)(hf:r.Fit)(hl:r.gK=2)(ha:0<=r.iB/\r.iB<=4294967295)(hs:0<=r.iO/\r.iO<=4294967295):f_ Vh 59 #[p_ G] w fun ee w'=>ee=.returned (.tuple #[])/\∃v,Rm w0 P w' G (r.jV 3 r.mV v):=by
 have HSAY:Hid (∀(x:fV) (la:Nat),Rm w0 P x G r->x.heap[la]?=some (.cells (rC 50 ⟨(g_ r.iB).toArray⟩ 54 ⟨(g_ r.iO).toArray⟩) 151 (0,0))-> ¬iT G r la->f_ Vh 62 #[p_ G,Vb Vd 3,.bool false,.slice (some (a_ la 0)) 2 2] x fun ee w'=>ee=.returned (.tuple #[])/\∃v,Rm w0 P w' G (r.jV 3 r.mV v)):=gu (fun x la hx hr hn=>M7 hx hf (by omega) 3 true (by decide) la hr hn)
 have HIA:Hid (∀u,f_ Vh 91 #[Vb Vf r.iB] u fun e w'=>e=.returned (.string ⟨(g_ r.iB).toArray⟩)/\gm u.heap.size u w'):=gu (fun u=>by rw[<-rO.vM];exact Rb.zI r.iB u ha.1 ha.2)
 have HIS:Hid (∀u,f_ Vh 91 #[Vb Vf r.iO] u fun e w'=>e=.returned (.string ⟨(g_ r.iO).toArray⟩)/\gm u.heap.size u w'):=gu (fun u=>by rw[<-rO.vM];exact Rb.zI r.iO u hs.1 hs.2)
 have kF:=h.kF
 rw[hl]at kF
 have HM:=gu h
 have c24:=h.c24
 have uF:=h.uF
 have hlt:=h.lt
 clear h ha hs hf
 go_enter func59,ntmps59
 obtain⟨A,hA⟩:∃A:ByteArray,A=⟨(g_ r.iB).toArray⟩:=⟨_,rfl⟩
 obtain⟨V,hV⟩:∃V:ByteArray,V=⟨(g_ r.iO).toArray⟩:=⟨_,rfl⟩
 rw[<-hA,<-hV]at HSAY
 rw[<-hA]at HIA
 rw[<-hV]at HIS
 have HKS:Hid (∀u,Rm w0 P u G r->u.cell? (a_ G 24)=some (Vb Vf r.iB)/\u.cell? (a_ G 27)=some (Vb Vf r.iO)):=gu (fun u hu=>⟨hu.c24,hu.uF⟩)
 have HKZ:Hid (∀u v,Rm w0 P u G (r.jV 3 r.mV v)->u.cell? (a_ G 24)=some (Vb Vf r.iB)/\u.cell? (a_ G 27)=some (Vb Vf r.iO)):=gu (fun u v hu=>by
  have q1:=hu.c24
  have q2:=hu.uF
  rw[(vY r 3 r.mV v).1]at q1
  rw[(vY r 3 r.mV v).2]at q2
  exact⟨q1,q2⟩)
 clear hA hV
 go_wp2
 go_region_held3 (fun u=>u.cell? (a_ G 24)=some (Vb Vf r.iB)/\u.cell? (a_ G 27)=some (Vb Vf r.iO)) (first|(go_keep;done)|exact HKZ _ _ (by first|exact gB HZ|exact HZ.drew)|exact HKS _ (by first|exact gB H1|exact H1.drew|exact gB H2|exact H2.drew|exact H2.alloc _|exact(H2.alloc _).drew))
  (first|(go_at_call_of 91 (Vb Vf r.iB);refine(HIA _).mono ?_;rintro ee u1 ⟨rfl,hb1⟩;first|(have H2:=gu (H1.drew.below hb1))|(have H2:=gu (H1.below hb1))|(have H1:=gu (HM.drew.below hb1))|(have H1:=gu (HM.below hb1));clear hb1)|(go_at_call_of 91 (Vb Vf r.iO);refine(HIS _).mono ?_;rintro ee u2 ⟨rfl,hb2⟩;first|(have H2:=gu (H1.drew.below hb2))|(have H2:=gu (H1.below hb2))|(have H1:=gu (HM.drew.below hb2))|(have H1:=gu (HM.below hb2));clear hb2)|(go_at_call 62;refine(HSAY _ _ (by first|exact H2.alloc _|exact(H2.alloc _).drew|exact(H2.drew).alloc _) (by first|exact G8 _ _) (fun hf=>bS _ (by first|exact H2.ik hf|exact H2.drew.ik hf))).mono ?_;rintro ee u3 ⟨rfl,vz,hz⟩;have HZ:=gu hz;clear hz))
 all_goals clear c24 uF HKS HKZ HSAY HIA HIS
 all_goals
  go_wp2
  go_end0
  exact⟨rfl,vz,HZ⟩
end Ref
namespace Ref
open Bs Js
variable{w0:fV} {P:Nat→Prop} {w w':fV} {G:Nat} {r r':Rf}
theorem MG(h:Rm w0 P w G r)(hf:r.Fit)(ha:0<=r.iB/\r.iB<=4294967295)(hs:0<=r.iO/\r.iO<=4294967295):f_ Vh 58 #[p_ G,Vb Vg 2] w fun ee w'=>ee=.returned (.tuple #[])/\∃v,Rm w0 P w' G (r.Ao.jV 3 r.mV v):=by
 obtain⟨N,hN⟩:∃N,N=wrap64 (r.now+lQ 0 r.draw):=⟨_,rfl⟩
 have hw:IntKind.i64.wrap (r.now+lQ 0 r.draw)=N:=by rw[hN,l_]
 have HN:=gu hN
 have HF1:Hid (r.Ao.Fit):=gu ⟨hf.draw,hf.gF,hf.tx,hf.tl⟩
 have h1:Rm w0 P (w.setCell (a_ G 22) (Vb Vg 2)) G {r with gK:=2}:=h.Ua 2
 have h2:Rm w0 P ((w.setCell (a_ G 22) (Vb Vg 2)).setCell (a_ G 33) (Vb Vg 1)) G {r with gK:=2,sends:=1}:=h1.Tx 1
 have HAB:=gu (And.intro ha hs)
 clear ha hs
 have kF:=h.kF
 have f22:=h.free 22
 have qd:=h1.qd
 have f33:=h1.free 33
 have HW1:Hid (f_ Vh 41 #[p_ G,Vb Vg 0] (((w.setCell (a_ G 22) (Vb Vg 2)).setCell (a_ G 33) (Vb Vg 1)).drew) fun ee w'=>ee=.returned (Vb Vg (lQ 0 r.draw))/\w'=((w.setCell (a_ G 22) (Vb Vg 2)).setCell (a_ G 33) (Vb Vg 1)).drew):=gu (wK (k:=0) h2.drew (by decide) hf.draw)
 have H2:=gu h2
 have c16:=h2.c16
 have c32:=h2.c32
 have f32:=h2.free 32
 obtain⟨v,hv⟩:∃v,v=(w.setCell (a_ G 22) (Vb Vg 2)).setCell (a_ G 33) (Vb Vg 1):=⟨_,rfl⟩
 rw[<-hv]at c16 c32 f32 HW1 H2
 have HV:=gu hv
 clear h h1 h2 hf hv hN
 go_enter func58,ntmps58
 go_wp2
 rw[<-gB HV]
 clear kF f22 qd f33 HV
 have H3:Hid (Rm w0 P ((v.setCell (a_ G 32) (Vb Vg N)).drew) G r.Ao):=gu (by rw[gB HN];exact(H2.Si _).drew)
 go_region_held3 (fun u=>u.cell? (a_ G 16)=some (Vb Vg r.now)) (first|(go_keep;done)|exact H3.c16)
  (first|(go_at_call 41;refine HW1.mono ?_;rintro ee u ⟨rfl,rfl⟩))
 have HS:=gu (EQ H3 HF1 rfl HAB.1 HAB.2)
 clear H3 H2 HF1 c16 c32 f32 HW1 hw HN
 go_wp2_with fail
 refine HS.mono ?_
 rintro ee u ⟨rfl,v9,hu⟩
 have HU:=gu hu
 clear hu HS
 go_wp2
 go_end0
 exact⟨rfl,v9,HU⟩
theorem DD(h:Rm w0 P w G r)(hf:r.Fit)(hl:r.gK=2)(ha:0<=r.iB/\r.iB<=4294967295)(hs2:0<=r.iO/\r.iO<=4294967295)(k:Nat)(hk:k<=3)(hs:r.sends=k)(hn: ¬r.now<r.again):f_ Vh 39 #[p_ G] w fun ee w'=>ee=.returned (.tuple #[])/\∃v,Rm w0 P w' G ((r.more k).jV 3 r.mV v):=by
 obtain⟨N,hN⟩:∃N,N=wrap64 (r.now+lQ k r.draw):=⟨_,rfl⟩
 have hw:IntKind.i64.wrap (r.now+lQ k r.draw)=N:=by rw[hN,l_]
 have HN:=gu hN
 have hw1:IntKind.i64.wrap ((k:Int)+1)=(k:Int)+1:=wrap_i64 _ (by omega) (by omega)
 have HF1:Hid ((r.more k).Fit):=gu ⟨hf.draw,hf.gF,hf.tx,hf.tl⟩
 have HL1:Hid ((r.more k).gK=2):=gu hl
 have HAB:=gu (And.intro ha hs2)
 clear ha hs2
 have HM:=gu h
 have HD:=gu hf.draw
 have HK:=gu hk
 have c16:=h.c16
 have c32:=h.c32
 have kF:=h.kF
 have qd:=h.qd
 rw[hl]at kF
 rw[hs]at qd
 have HSS:=gu hs
 have hge:r.again<=r.now:=by omega
 have hgd:decide (r.again<=r.now)=true:=by simpa using hge
 have hq4:((k:Int)==4)=false:=by rw[aD];omega
 clear h hf hn hN hs hk
 go_enter func39,ntmps39
 go_wp2
 go_quiet (fail)
 obtain⟨u,hu⟩:∃u,u=w.drewN nq:=⟨_,rfl⟩
 have HMu:Hid (Rm w0 P u G r):=gu (by rw[hu];exact HM.like ⟨rfl,rfl,rfl,rfl⟩)
 rw[<-hu]
 clear hu HM c16 c32 kF qd
 have c16:=HMu.c16
 have c32:=HMu.c32
 go_wp2
 go_quiet (fail)
 obtain⟨v,hv⟩:∃v,v=u.drewN nq:=⟨_,rfl⟩
 have HMv:Hid (Rm w0 P v G r):=gu (by rw[hv];exact HMu.like ⟨rfl,rfl,rfl,rfl⟩)
 rw[<-hv]
 clear hv HMu c16 c32
 have c16:=HMv.c16
 have c32:=HMv.c32
 have f32:=HMv.free 32
 have qd:=HMv.qd
 rw[gB HSS]at qd
 have HW1:Hid (f_ Vh 41 #[p_ G,Vb Vg k] v.drew fun ee w'=>ee=.returned (Vb Vg (lQ k r.draw))/\w'=v.drew):=gu (wK HMv.drew k (by have:=gB HK;omega) HD)
 go_wp2
 have H3:Hid (Rm w0 P ((v.setCell (a_ G 32) (Vb Vg N)).drew) G {r with again:=N}):=gu ((HMv.Si _).drew)
 have g33:=H3.qd
 rw[show({r with again:=N}:Rf).sends=(k:Int)from gB HSS]at g33
 have HG33:=gu g33
 clear g33
 go_region_held3 (fun u=>u.cell? (a_ G 16)=some (Vb Vg r.now)/\u.cell? (a_ G 33)=some (Vb Vg k)) (first|(go_keep;done)|exact⟨H3.c16,HG33⟩)
  (first|(go_at_call 41;refine HW1.mono ?_;rintro ee u ⟨rfl,rfl⟩))
 have H4:Hid (Rm w0 P (((v.setCell (a_ G 32) (Vb Vg N)).drew).setCell (a_ G 33) (Vb Vg ((k:Int)+1))) G (r.more k)):=gu (by
  have q:=H3.Tx ((k:Int)+1)
  rw[show r.more k={r with again:=N,sends:=(k:Int)+1}from by rw[gB HN];rfl]
  exact q)
 have HS:=gu (EQ H4 HF1 HL1 HAB.1 HAB.2)
 have g33:=gB HG33
 have k33:=H3.free 33
 obtain⟨x,hx⟩:∃x,x=(v.setCell (a_ G 32) (Vb Vg N)).drew:=⟨_,rfl⟩
 rw[<-hx]at HS g33 k33 ⊢
 clear hx H3 HG33 H4 HF1 HMv c16 c32 f32 qd HW1
 go_wp2_with fail
 refine HS.mono ?_
 rintro ee u ⟨rfl,v9,hu⟩
 have HU:=gu hu
 clear hu HS
 go_wp2
 go_returns
 exact⟨rfl,v9,HU⟩
theorem Dt(h:Rm w0 P w G r)(tp:Option Addr)(ht:r.t=.pointer tp)(hl:r.gK=2)(hs:r.sends=4)(hn: ¬r.now<r.again):f_ Vh 39 #[p_ G] w fun ee w'=>ee=.returned (.tuple #[])/\Rm w0 P w' G r.ku:=by
 have HM:=gu h
 have HT:=gu ht
 have c16:=h.c16
 have c32:=h.c32
 have kF:=h.kF
 have qd:=h.qd
 rw[hl]at kF
 rw[hs]at qd
 have hge:r.again<=r.now:=by omega
 have hgd:decide (r.again<=r.now)=true:=by simpa using hge
 clear h hn ht hs
 go_enter func39,ntmps39
 go_wp2
 go_quiet (fail)
 obtain⟨u,hu⟩:∃u,u=w.drewN nq:=⟨_,rfl⟩
 have HMu:Hid (Rm w0 P u G r):=gu (by rw[hu];exact HM.like ⟨rfl,rfl,rfl,rfl⟩)
 rw[<-hu]
 have HFF:=gu (oM HMu tp HT)
 clear hu HM c16 c32 kF qd HMu
 go_wp2_with fail
 refine HFF.mono ?_
 rintro ee u ⟨rfl,hu⟩
 have HU:=gu hu
 clear hu HFF
 go_wp2
 go_returns
 exact⟨rfl,HU⟩
theorem Dx(h:Rm w0 P w G r)(hl:r.gK=3)(hn:r.now<r.again):f_ Vh 39 #[p_ G] w fun ee w'=>ee=.returned (.tuple #[])/\Rm w0 P w' G r:=by
 have HM:=gu h
 have c16:=h.c16
 have c32:=h.c32
 have kF:=h.kF
 have hge: ¬r.again<=r.now:=by omega
 have hgd:decide (r.again<=r.now)=false:=by simpa using hge
 clear h hn
 rw[hl]at kF
 go_enter func39,ntmps39
 go_wp2
 try (go_quiet (fail);go_wp2)
 go_returns
 exact⟨rfl,HM.like ⟨rfl,rfl,rfl,rfl⟩⟩
theorem Fh(r:Rf)(kb:UInt8)(os:Dh.gU)(v:Value):(r.jV kb os v).phase=r.phase:=x_ _ _ _
theorem xy(h:Rm w0 P w G r)(he:r.Late)(d:Int)(hd:0<=d/\d<=4294967295)(h3:r.gK=3->(r.jU d).now<r.again):
  f_ Vh 22 #[p_ G,Vb Vf d] w fun ee w'=>ee=.returned (.tuple #[])/\∃v,Rm w0 P w' G (r.lm d v):=by
 obtain⟨tp,ht⟩:=he.t
 have hc:=he.cv
 rcases he.phase with hp|hp
 ·have h4: ¬r.phase=4:=by omega
  have hfit:(r.jU d).Fit:=⟨hd,he.fit.gF,he.fit.tx,he.fit.tl⟩
  by_cases l0:r.gK=0
  ·have e:∀v,r.lm d v=({r.jU d with gF:=(r.jU d).draw}:Rf).kw.pU 1 v:=fun v=>by unfold Rf.lm;rw[ax h4,ay l0]
   refine(qm h hp hc d (fun v=>({r.jU d with gF:=(r.jU d).draw}:Rf).kw.pU 1 v) (fun v=> ?_) (fun w0 P u hu=>zM (r:=r.jU d) hu hfit l0)).mono ?_
   ·rw[qY];show r.phase≠1/\r.phase≠2;omega
   ·rintro ee u ⟨rfl,v,hu⟩
    exact⟨rfl,v,by rw[e];exact hu⟩
  ·by_cases l3:r.gK=3
   ·have e:∀v,r.lm d v=r.jU d:=fun v=>by unfold Rf.lm;rw[ax h4,ax l0,ay l3]
    refine(tH (r':=r.jU d) h hp hc d (by show r.phase≠1/\r.phase≠2;omega) (fun w0 P u hu=>Dx (r:=r.jU d) hu l3 (h3 l3))).mono ?_
    rintro ee u ⟨rfl,hu⟩
    exact⟨rfl,.slice none 0 0,by rw[e];exact hu⟩
   ·have hl:r.gK=1∨r.gK=2:=by have:=he.gK;omega
    by_cases hn:(r.jU d).now<(r.jU d).again
    ·have e:∀v,r.lm d v=r.jU d:=fun v=>by unfold Rf.lm;rw[ax h4,ax l0,ax l3,ay hn]
     refine(tH (r':=r.jU d) h hp hc d (by show r.phase≠1/\r.phase≠2;omega) (fun w0 P u hu=>yC (r:=r.jU d) hu hl hn)).mono ?_
     rintro ee u ⟨rfl,hu⟩
     exact⟨rfl,.slice none 0 0,by rw[e];exact hu⟩
    ·by_cases h5:r.sends=4
     ·have e:∀v,r.lm d v=(r.jU d).ku:=fun v=>by unfold Rf.lm;rw[ax h4,ax l0,ax l3,ax hn,ay h5]
      have hF:∀(w0:fV) (P:Nat->Prop) (u:fV),Rm w0 P u G (r.jU d)->f_ Vh 39 #[p_ G] u fun ee w'=>ee=.returned (.tuple #[])/\Rm w0 P w' G (r.jU d).ku:=fun w0 P u hu=>by
       rcases hl with hl|hl
       ·exact xV (r:=r.jU d) hu tp ht hl h5 hn
       ·exact Dt (r:=r.jU d) hu tp ht hl h5 hn
      refine(tH (r':=(r.jU d).ku) h hp hc d (by have:=yc (r.jU d);omega) hF).mono ?_
      rintro ee u ⟨rfl,hu⟩
      exact⟨rfl,.slice none 0 0,by rw[e];exact hu⟩
     ·have hs:=he.sends
      by_cases l1:r.gK=1
      ·have e:∀v,r.lm d v=((r.jU d).more r.sends.toNat).pU 1 v:=fun v=>by unfold Rf.lm;rw[ax h4,ax l0,ax l3,ax hn,ax h5,ay l1]
       refine(qm h hp hc d (fun v=>((r.jU d).more r.sends.toNat).pU 1 v) (fun v=> ?_) (fun w0 P u hu=>yI (r:=r.jU d) hu hfit l1 r.sends.toNat (by omega) (by show r.sends=_;omega) hn)).mono ?_
       ·rw[qY];show r.phase≠1/\r.phase≠2;omega
       ·rintro ee u ⟨rfl,v,hu⟩
        exact⟨rfl,v,by rw[e];exact hu⟩
      ·have l2:r.gK=2:=by omega
       have e:∀v,r.lm d v=((r.jU d).more r.sends.toNat).jV 3 r.mV v:=fun v=>by unfold Rf.lm;rw[ax h4,ax l0,ax l3,ax hn,ax h5,ax l1]
       refine(qm h hp hc d (fun v=>((r.jU d).more r.sends.toNat).jV 3 r.mV v) (fun v=> ?_) (fun w0 P u hu=>DD (r:=r.jU d) hu hfit l2 he.iB he.iO r.sends.toNat (by omega) (by show r.sends=_;omega) hn)).mono ?_
       ·rw[Fh];show r.phase≠1/\r.phase≠2;omega
       ·rintro ee u ⟨rfl,v,hu⟩
        exact⟨rfl,v,by rw[e];exact hu⟩
 ·have e:∀v,r.lm d v=r.jU d:=fun v=>by unfold Rf.lm;rw[ay hp]
  refine(BR h hp d).mono ?_
  rintro ee u ⟨rfl,hu⟩
  exact⟨rfl,.slice none 0 0,by rw[e];exact hu⟩
end Ref
namespace Ref
open Bs Js
open Dh (gU)
variable{w0:fV} {P:Nat→Prop} {w w':fV} {G:Nat} {r r':Rf}
theorem PY(h:Rm w0 P w G r)(hl:r.gK=3)(hc:r.cv=.slice none 0 0)(op f0 f1 f2 f3 f4 f5 fip t0 t1 t2 t3 t4 t5 tip:Int)(hno: ¬(fip=r.iB/\r.tQ f0 f1 f2 f3 f4 f5=true)):
  f_ Vh 67 #[p_ G,.agg (rA op f0 f1 f2 f3 f4 f5 fip t0 t1 t2 t3 t4 t5 tip)] w fun ee w'=>ee=.returned (.tuple #[])/\Rm w0 P w' G r:=by
 have HM1:=gu (h.alloc (.cells (rA op f0 f1 f2 f3 f4 f5 fip t0 t1 t2 t3 t4 t5 tip) 115))
 have HR1:Hid ((w.alloc (.cells (rA op f0 f1 f2 f3 f4 f5 fip t0 t1 t2 t3 t4 t5 tip) 115)).heap[w.heap.size]?=some (.cells (rA op f0 f1 f2 f3 f4 f5 fip t0 t1 t2 t3 t4 t5 tip) 115 (0,0))):=gu (G8 w _)
 have hl3:(r.gK==3)=true:=by rw[hl];rfl
 have hq:=fun u=>iC f0 f1 f2 f3 f4 f5 r.k0.toNat r.k1.toNat r.k2.toNat r.k3.toNat r.k4.toNat r.k5.toNat u
 unfold Rf.tQ at hno
 generalize(f0==(r.k0.toNat:Int) && f1==(r.k1.toNat:Int) && f2==(r.k2.toNat:Int) && f3==(r.k3.toNat:Int) && f4==(r.k4.toNat:Int) && f5==(r.k5.toNat:Int))=bq at hq hno
 have HL:Hid (r.gK<4):=gu (by omega)
 have HC:=gu hc
 clear h hl hc
 go_enter func67,ntmps67
 obtain⟨v,hv⟩:∃v,v=w.alloc (.cells (rA op f0 f1 f2 f3 f4 f5 fip t0 t1 t2 t3 t4 t5 tip) 115):=⟨_,rfl⟩
 rw[<-hv]at HM1 HR1
 have HV:=gu hv
 clear hv
 go_wp2
 rw[<-gB HV]
 have kF:=HM1.kF
 have c24:=HM1.c24
 have c1:=HM1.c1
 have c2:=HM1.c2
 have c3:=HM1.c3
 have c4:=HM1.c4
 have c5:=HM1.c5
 have c6:=HM1.c6
 obtain⟨x0,x1,x2,x3,x4,x5,x6,x7,x8,x9,x10,x11,x12,x13,x14⟩:=oZ HR1
 by_cases hI:fip=r.iB
 ·have hb:bq=true:=by
   cases bq with
   |true=>rfl
   |false=>exact absurd ⟨hI,rfl⟩ hno
  subst hb
  have eI:(fip==r.iB)=true:=by simpa using hI
  clear hI hno
  go_quiet (fail)
  obtain⟨v2,hv2⟩:∃v2,v2=v.drewN nq:=⟨_,rfl⟩
  have HM2:Hid (Rm w0 P v2 G r):=gu (by rw[hv2];exact HM1.like ⟨rfl,rfl,rfl,rfl⟩)
  have HR2:Hid (v2.heap[w.heap.size]?=v.heap[w.heap.size]?):=gu (by rw[hv2];rfl)
  rw[<-hv2]
  clear hv2 kF c24 c1 c2 c3 c4 c5 c6 hq eI x0 x1 x2 x3 x4 x5 x6 x7 x8 x9 x10 x11 x12 x13 x14
  have HA2:Hid (∀n,f_ Vh 46 #[p_ G] (v2.drewN n) fun ee w'=>ee=.returned (Vb Vf 0)/\w'=v2.drewN n):=gu (fun n=>jW (HM2.like ⟨rfl,rfl,rfl,rfl⟩) HL)
  go_wp2
  go_quiet (first|(go_at_call 46;exact VA (HA2 _)))
  obtain⟨v3,hv3⟩:∃v3,v3=v2.drewN nq:=⟨_,rfl⟩
  have HM3:Hid (Rm w0 P v3 G r):=gu (by rw[hv3];exact HM2.like ⟨rfl,rfl,rfl,rfl⟩)
  have HR3:Hid (v3.heap[w.heap.size]?=v.heap[w.heap.size]?):=gu (by rw[hv3];exact HR2)
  rw[<-hv3]
  clear hv3 HA2
  have HA3:Hid (∀n,f_ Vh 46 #[p_ G] (v3.drewN n) fun ee w'=>ee=.returned (Vb Vf 0)/\w'=v3.drewN n):=gu (fun n=>jW (HM3.like ⟨rfl,rfl,rfl,rfl⟩) HL)
  obtain⟨x0,x1,x2,x3,x4,x5,x6,x7,x8,x9,x10,x11,x12,x13,x14⟩:=oZ (HR3.trans HR1)
  by_cases hf:fip=0
  ·subst hf
   go_wp2
   go_quiet (first|(go_at_call 46;exact VA (HA3 _)))
   go_wp2
   go_returns
   exact⟨rfl,HM3.like ⟨rfl,rfl,rfl,rfl⟩⟩
  ·have hf':(fip !=0)=true:=by simpa using hf
   go_wp2
   go_quiet (first|(go_at_call 46;exact VA (HA3 _)))
   obtain⟨v4,hv4⟩:∃v4,v4=v3.drewN nq:=⟨_,rfl⟩
   have HM4:Hid (Rm w0 P v4 G r):=gu (by rw[hv4];exact HM3.like ⟨rfl,rfl,rfl,rfl⟩)
   have HR4:Hid (v4.heap[w.heap.size]?=v.heap[w.heap.size]?):=gu (by rw[hv4];exact HR3)
   rw[<-hv4]
   clear hv4 HA3 x0 x1 x2 x3 x4 x5 x6 x7 x8 x9 x10 x11 x12 x13 x14
   obtain⟨x0,x1,x2,x3,x4,x5,x6,x7,x8,x9,x10,x11,x12,x13,x14⟩:=oZ (HR4.trans HR1)
   have HF:=gu (A8 HM4 HC fip)
   go_wp2_with fail
   refine HF.mono ?_
   rintro ee u5 ⟨rfl,rfl⟩
   have c16:=HM4.c16
   have hlt:=HM4.lt
   have hne:w.heap.size<u5.heap.size:=aH u5 _ x0
   go_wp2
   go_region
   go_wp2
   go_returns
   refine⟨rfl,?_⟩
   exact(HM4.alloc _).like ⟨rfl,rfl,rfl,rfl⟩
 ·have eI:(fip==r.iB)=false:=by simpa using hI
  clear hI hno
  go_quiet (fail)
  obtain⟨v2,hv2⟩:∃v2,v2=v.drewN nq:=⟨_,rfl⟩
  have HM2:Hid (Rm w0 P v2 G r):=gu (by rw[hv2];exact HM1.like ⟨rfl,rfl,rfl,rfl⟩)
  have HR2:Hid (v2.heap[w.heap.size]?=v.heap[w.heap.size]?):=gu (by rw[hv2];rfl)
  rw[<-hv2]
  clear hv2 kF c24 c1 c2 c3 c4 c5 c6 hq eI x0 x1 x2 x3 x4 x5 x6 x7 x8 x9 x10 x11 x12 x13 x14
  have HA2:Hid (∀n,f_ Vh 46 #[p_ G] (v2.drewN n) fun ee w'=>ee=.returned (Vb Vf 0)/\w'=v2.drewN n):=gu (fun n=>jW (HM2.like ⟨rfl,rfl,rfl,rfl⟩) HL)
  go_wp2
  go_quiet (first|(go_at_call 46;exact VA (HA2 _)))
  obtain⟨v3,hv3⟩:∃v3,v3=v2.drewN nq:=⟨_,rfl⟩
  have HM3:Hid (Rm w0 P v3 G r):=gu (by rw[hv3];exact HM2.like ⟨rfl,rfl,rfl,rfl⟩)
  have HR3:Hid (v3.heap[w.heap.size]?=v.heap[w.heap.size]?):=gu (by rw[hv3];exact HR2)
  rw[<-hv3]
  clear hv3 HA2
  have HA3:Hid (∀n,f_ Vh 46 #[p_ G] (v3.drewN n) fun ee w'=>ee=.returned (Vb Vf 0)/\w'=v3.drewN n):=gu (fun n=>jW (HM3.like ⟨rfl,rfl,rfl,rfl⟩) HL)
  obtain⟨x0,x1,x2,x3,x4,x5,x6,x7,x8,x9,x10,x11,x12,x13,x14⟩:=oZ (HR3.trans HR1)
  by_cases hf:fip=0
  ·subst hf
   go_wp2
   go_quiet (first|(go_at_call 46;exact VA (HA3 _)))
   go_wp2
   go_returns
   exact⟨rfl,HM3.like ⟨rfl,rfl,rfl,rfl⟩⟩
  ·have hf':(fip !=0)=true:=by simpa using hf
   go_wp2
   go_quiet (first|(go_at_call 46;exact VA (HA3 _)))
   obtain⟨v4,hv4⟩:∃v4,v4=v3.drewN nq:=⟨_,rfl⟩
   have HM4:Hid (Rm w0 P v4 G r):=gu (by rw[hv4];exact HM3.like ⟨rfl,rfl,rfl,rfl⟩)
   have HR4:Hid (v4.heap[w.heap.size]?=v.heap[w.heap.size]?):=gu (by rw[hv4];exact HR3)
   rw[<-hv4]
   clear hv4 HA3 x0 x1 x2 x3 x4 x5 x6 x7 x8 x9 x10 x11 x12 x13 x14
   obtain⟨x0,x1,x2,x3,x4,x5,x6,x7,x8,x9,x10,x11,x12,x13,x14⟩:=oZ (HR4.trans HR1)
   have HF:=gu (A8 HM4 HC fip)
   go_wp2_with fail
   refine HF.mono ?_
   rintro ee u5 ⟨rfl,rfl⟩
   have c16:=HM4.c16
   have hlt:=HM4.lt
   have hne:w.heap.size<u5.heap.size:=aH u5 _ x0
   go_wp2
   go_region
   go_wp2
   go_returns
   refine⟨rfl,?_⟩
   exact(HM4.alloc _).like ⟨rfl,rfl,rfl,rfl⟩
theorem Pm(r:Rf)(kb:UInt8)(os:gU)(v:Value):(r.jV kb os v).t=r.t:=by unfold Rf.jV Rf.mP;split<;>rfl
theorem Oa(h:Rm w0 P w G r)(hf:r.Fit)(hl:r.gK=3)(ha:0<=r.iB/\r.iB<=4294967295)(hs:0<=r.iO/\r.iO<=4294967295)(tp:Option Addr)(ht:r.t=.pointer tp)(op f0 f1 f2 f3 f4 f5 fip t0 t1 t2 t3 t4 t5 tip:Int)(hi:fip=r.iB)(ho:r.tQ f0 f1 f2 f3 f4 f5=true):
  f_ Vh 67 #[p_ G,.agg (rA op f0 f1 f2 f3 f4 f5 fip t0 t1 t2 t3 t4 t5 tip)] w fun ee w'=>ee=.returned (.tuple #[])/\∃v,Rm w0 P w' G (r.jV 4 r.mV v).ku:=by
 have HM1:=gu (h.alloc (.cells (rA op f0 f1 f2 f3 f4 f5 fip t0 t1 t2 t3 t4 t5 tip) 115))
 have HR1:Hid ((w.alloc (.cells (rA op f0 f1 f2 f3 f4 f5 fip t0 t1 t2 t3 t4 t5 tip) 115)).heap[w.heap.size]?=some (.cells (rA op f0 f1 f2 f3 f4 f5 fip t0 t1 t2 t3 t4 t5 tip) 115 (0,0))):=gu (G8 w _)
 have hl3:(r.gK==3)=true:=by rw[hl];rfl
 have eI:(fip==r.iB)=true:=by simpa using hi
 have hq:=fun u=>iC f0 f1 f2 f3 f4 f5 r.k0.toNat r.k1.toNat r.k2.toNat r.k3.toNat r.k4.toNat r.k5.toNat u
 unfold Rf.tQ at ho
 generalize(f0==(r.k0.toNat:Int) && f1==(r.k1.toNat:Int) && f2==(r.k2.toNat:Int) && f3==(r.k3.toNat:Int) && f4==(r.k4.toNat:Int) && f5==(r.k5.toNat:Int))=bq at hq ho
 have hb:bq=false:=by simpa using ho
 subst hb
 have HSAY:Hid (∀(x:fV) (la:Nat),Rm w0 P x G r->x.heap[la]?=some (.cells (rC 50 ⟨(g_ r.iB).toArray⟩ 54 ⟨(g_ r.iO).toArray⟩) 151 (0,0))-> ¬iT G r la->f_ Vh 62 #[p_ G,Vb Vd 4,.bool false,.slice (some (a_ la 0)) 2 2] x fun ee w'=>ee=.returned (.tuple #[])/\∃v,Rm w0 P w' G (r.jV 4 r.mV v)):=gu (fun x la hx hr hn=>M7 hx hf (by omega) 4 false (by decide) la hr hn)
 have HFAIL:Hid (∀(x:fV) (v:Value),Rm w0 P x G (r.jV 4 r.mV v)->f_ Vh 40 #[p_ G] x fun ee w'=>ee=.returned (.tuple #[])/\Rm w0 P w' G (r.jV 4 r.mV v).ku):=gu (fun x v hx=>oM hx tp (by rw[Pm];exact ht))
 have HIA:Hid (∀u,f_ Vh 91 #[Vb Vf r.iB] u fun e w'=>e=.returned (.string ⟨(g_ r.iB).toArray⟩)/\gm u.heap.size u w'):=gu (fun u=>by rw[<-rO.vM];exact Rb.zI r.iB u ha.1 ha.2)
 have HIS:Hid (∀u,f_ Vh 91 #[Vb Vf r.iO] u fun e w'=>e=.returned (.string ⟨(g_ r.iO).toArray⟩)/\gm u.heap.size u w'):=gu (fun u=>by rw[<-rO.vM];exact Rb.zI r.iO u hs.1 hs.2)
 have hlt:=h.lt
 clear h hf hl ha hs ht hi ho
 go_enter func67,ntmps67
 obtain⟨v,hv⟩:∃v,v=w.alloc (.cells (rA op f0 f1 f2 f3 f4 f5 fip t0 t1 t2 t3 t4 t5 tip) 115):=⟨_,rfl⟩
 rw[<-hv]at HM1 HR1
 have HV:=gu hv
 clear hv
 go_wp2
 rw[<-gB HV]
 have kF:=HM1.kF
 have c24:=HM1.c24
 have c1:=HM1.c1
 have c2:=HM1.c2
 have c3:=HM1.c3
 have c4:=HM1.c4
 have c5:=HM1.c5
 have c6:=HM1.c6
 obtain⟨x0,x1,x2,x3,x4,x5,x6,x7,x8,x9,x10,x11,x12,x13,x14⟩:=oZ HR1
 go_quiet (fail)
 obtain⟨v2,hv2⟩:∃v2,v2=v.drewN nq:=⟨_,rfl⟩
 have HM:Hid (Rm w0 P v2 G r):=gu (by rw[hv2];exact HM1.like ⟨rfl,rfl,rfl,rfl⟩)
 rw[<-hv2]
 clear hv2 kF c24 c1 c2 c3 c4 c5 c6 hq eI x0 x1 x2 x3 x4 x5 x6 x7 x8 x9 x10 x11 x12 x13 x14 HM1 HR1 HV hl3
 have c24:=HM.c24
 have uF:=HM.uF
 have hlt2:=HM.lt
 obtain⟨A,hA⟩:∃A:ByteArray,A=⟨(g_ r.iB).toArray⟩:=⟨_,rfl⟩
 obtain⟨V,hV⟩:∃V:ByteArray,V=⟨(g_ r.iO).toArray⟩:=⟨_,rfl⟩
 rw[<-hA,<-hV]at HSAY
 rw[<-hA]at HIA
 rw[<-hV]at HIS
 have HKS:Hid (∀u,Rm w0 P u G r->u.cell? (a_ G 24)=some (Vb Vf r.iB)/\u.cell? (a_ G 27)=some (Vb Vf r.iO)):=gu (fun u hu=>⟨hu.c24,hu.uF⟩)
 have HKZ:Hid (∀u v,Rm w0 P u G (r.jV 4 r.mV v)->u.cell? (a_ G 24)=some (Vb Vf r.iB)/\u.cell? (a_ G 27)=some (Vb Vf r.iO)):=gu (fun u v hu=>by
  have q1:=hu.c24
  have q2:=hu.uF
  rw[(vY r 4 r.mV v).1]at q1
  rw[(vY r 4 r.mV v).2]at q2
  exact⟨q1,q2⟩)
 clear hA hV
 go_wp2
 go_region_held3 (fun u=>u.cell? (a_ G 24)=some (Vb Vf r.iB)/\u.cell? (a_ G 27)=some (Vb Vf r.iO)) (first|(go_keep;done)|exact HKZ _ _ (by first|exact gB HZ|exact HZ.drew)|exact HKS _ (by first|exact gB H1|exact H1.drew|exact gB H2|exact H2.drew|exact H2.alloc _|exact(H2.alloc _).drew))
  (first|(go_at_call_of 91 (Vb Vf r.iB);refine(HIA _).mono ?_;rintro ee u1 ⟨rfl,hb1⟩;first|(have H2:=gu (H1.drew.below hb1))|(have H2:=gu (H1.below hb1))|(have H1:=gu (HM.drew.below hb1))|(have H1:=gu (HM.below hb1));clear hb1)|(go_at_call_of 91 (Vb Vf r.iO);refine(HIS _).mono ?_;rintro ee u2 ⟨rfl,hb2⟩;first|(have H2:=gu (H1.drew.below hb2))|(have H2:=gu (H1.below hb2))|(have H1:=gu (HM.drew.below hb2))|(have H1:=gu (HM.below hb2));clear hb2)|(go_at_call 62;refine(HSAY _ _ (by first|exact H2.alloc _|exact(H2.alloc _).drew|exact(H2.drew).alloc _) (by first|exact G8 _ _) (fun hf=>bS _ (by first|exact H2.ik hf|exact H2.drew.ik hf))).mono ?_;rintro ee u3 ⟨rfl,vz,hz⟩;have HZ:=gu hz;clear hz))
 all_goals clear c24 uF HKS HKZ HSAY HIA HIS
 have HF:=gu (HFAIL _ _ HZ)
 clear HZ
 go_wp2_with fail
 refine HF.mono ?_
 rintro ee u9 ⟨rfl,h9⟩
 have H9:=gu h9
 clear h9 HF
 go_wp2
 go_returns
 exact⟨rfl,vz,H9⟩
theorem Rl(h:Rm w0 P w G r)(he:r.Late)(op f0 f1 f2 f3 f4 f5 fip t0 t1 t2 t3 t4 t5 tip:Int):
  f_ Vh 67 #[p_ G,.agg (rA op f0 f1 f2 f3 f4 f5 fip t0 t1 t2 t3 t4 t5 tip)] w fun ee w'=>ee=.returned (.tuple #[])/\∃rz,(∃v,rz=r.zg f0 f1 f2 f3 f4 f5 fip v)/\Rm w0 P w' G rz:=by
 by_cases hc:r.gK=3/\fip=r.iB/\r.tQ f0 f1 f2 f3 f4 f5=true
 ·obtain⟨tp,ht⟩:=he.t
  refine(Oa h he.fit hc.1 he.iB he.iO tp ht op f0 f1 f2 f3 f4 f5 fip t0 t1 t2 t3 t4 t5 tip hc.2.1 hc.2.2).mono ?_
  rintro ee u ⟨rfl,v,hu⟩
  exact⟨rfl,_,⟨v,by unfold Rf.zg;rw[ay hc]⟩,hu⟩
 ·have hfin:∀(e:Ending) (u:fV),(e=.returned (.tuple #[])/\Rm w0 P u G r)->e=.returned (.tuple #[])/\∃rz,(∃v,rz=r.zg f0 f1 f2 f3 f4 f5 fip v)/\Rm w0 P u G rz:=fun e u hu=>⟨hu.1,r,⟨.slice none 0 0,by unfold Rf.zg;rw[ax hc]⟩,hu.2⟩
  by_cases h3:r.gK=3
  ·exact(PY h h3 he.cv op f0 f1 f2 f3 f4 f5 fip t0 t1 t2 t3 t4 t5 tip (fun q=>hc ⟨h3,q.1,q.2⟩)).mono hfin
  ·exact(JH h (by have:=he.gK;omega) he.cv op f0 f1 f2 f3 f4 f5 fip t0 t1 t2 t3 t4 t5 tip).mono hfin
end Ref
end Go.Proofs.YtbhbbeebncmaiaaGreatDoor
