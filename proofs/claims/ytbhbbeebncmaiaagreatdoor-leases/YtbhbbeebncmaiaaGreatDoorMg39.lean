import Derived.Test.YtbhbbeebncmaiaaGreatDoorMg27
import Derived.Test.YtbhbbeebncmaiaaGreatDoorMg34
import Derived.Test.YtbhbbeebncmaiaaGreatDoorMg38
set_option linter.all false
set_option maxHeartbeats 8000000
set_option maxRecDepth 100000
open Go.ChangeShapes Go.WideShapes Go.ChangeAt Go.RowKit
open Go renaming World → fV, Calls → f_
open Go.RowKit renaming Below → gm
open Go.Proofs.Tryz renaming prog → Vh
open Go.Value renaming int → Vb
open Go.IntKind renaming u8 → Vd, u16 → Ve, u32 → Vf, i64 → Vg
open Go.Proofs.Tryz
namespace Go.Proofs.YtbhbbeebncmaiaaGreatDoor
namespace Ref
open Bs Js
variable{w0:fV} {P:Nat→Prop} {w w':fV} {G:Nat} {r r':Rf}
structure Rf.Fit (r:Rf):Prop where
 draw:0<=r.draw/\r.draw<=4294967295
 gF:0<=r.gF/\r.gF<=4294967295
 tx:r.tx<=16
 tl:r.tl.length<=r.tx
theorem EU(h:Rm w0 P w G r)(hf:r.Fit)(hl:r.gK=1):f_ Vh 59 #[p_ G] w fun ee w'=>ee=.returned (.tuple #[])/\∃v,Rm w0 P w' G (r.pU 1 v):=by
 have HS:=gu (Oy h (by omega) 1 (by decide) hf.gF hf.tx hf.tl)
 have kF:=h.kF
 rw[hl]at kF
 clear h hf
 go_enter func59,ntmps59
 go_wp2_with fail
 refine HS.mono ?_
 rintro ee u ⟨rfl,v,hu⟩
 have HU:=gu hu
 clear hu HS
 go_wp2
 go_end0
 exact⟨rfl,v,HU⟩
def Rf.kw(r:Rf):Rf:={r with gK:=1,sends:=1,again:=wrap64 (r.now+lQ 0 r.draw)}
theorem Nn(h:Rm w0 P w G r)(hf:r.Fit):f_ Vh 58 #[p_ G,Vb Vg 1] w fun ee w'=>ee=.returned (.tuple #[])/\∃v,Rm w0 P w' G (r.kw.pU 1 v):=by
 obtain⟨N,hN⟩:∃N,N=wrap64 (r.now+lQ 0 r.draw):=⟨_,rfl⟩
 have hw:IntKind.i64.wrap (r.now+lQ 0 r.draw)=N:=by rw[hN,l_]
 have HN:=gu hN
 have HF1:Hid (r.kw.Fit):=gu ⟨hf.draw,hf.gF,hf.tx,hf.tl⟩
 have h1:Rm w0 P (w.setCell (a_ G 22) (Vb Vg 1)) G {r with gK:=1}:=h.Ua 1
 have h2:Rm w0 P ((w.setCell (a_ G 22) (Vb Vg 1)).setCell (a_ G 33) (Vb Vg 1)) G {r with gK:=1,sends:=1}:=h1.Tx 1
 have kF:=h.kF
 have f22:=h.free 22
 have qd:=h1.qd
 have f33:=h1.free 33
 have HW1:Hid (f_ Vh 41 #[p_ G,Vb Vg 0] (((w.setCell (a_ G 22) (Vb Vg 1)).setCell (a_ G 33) (Vb Vg 1)).drew) fun ee w'=>ee=.returned (Vb Vg (lQ 0 r.draw))/\w'=((w.setCell (a_ G 22) (Vb Vg 1)).setCell (a_ G 33) (Vb Vg 1)).drew):=gu (wK (k:=0) h2.drew (by decide) hf.draw)
 have H2:=gu h2
 have c16:=h2.c16
 have c32:=h2.c32
 have f32:=h2.free 32
 obtain⟨v,hv⟩:∃v,v=(w.setCell (a_ G 22) (Vb Vg 1)).setCell (a_ G 33) (Vb Vg 1):=⟨_,rfl⟩
 rw[<-hv]at c16 c32 f32 HW1 H2
 have HV:=gu hv
 clear h h1 h2 hf hv hN
 go_enter func58,ntmps58
 go_wp2
 rw[<-gB HV]
 clear kF f22 qd f33 HV
 have H3:Hid (Rm w0 P ((v.setCell (a_ G 32) (Vb Vg N)).drew) G r.kw):=gu (by rw[gB HN];exact(H2.Si _).drew)
 go_region_held3 (fun u=>u.cell? (a_ G 16)=some (Vb Vg r.now)) (first|(go_keep;done)|exact H3.c16)
  (first|(go_at_call 41;refine HW1.mono ?_;rintro ee u ⟨rfl,rfl⟩))
 have HS:=gu (EU H3 HF1 rfl)
 clear H3 H2 HF1 c16 c32 f32 HW1 hw HN
 go_wp2_with fail
 refine HS.mono ?_
 rintro ee u ⟨rfl,v9,hu⟩
 have HU:=gu hu
 clear hu HS
 go_wp2
 go_end0
 exact⟨rfl,v9,HU⟩
theorem zM(h:Rm w0 P w G r)(hf:r.Fit)(hl:r.gK=0):f_ Vh 39 #[p_ G] w fun ee w'=>ee=.returned (.tuple #[])/\∃v,Rm w0 P w' G (({r with gF:=r.draw}:Rf).kw.pU 1 v):=by
 have h1:Rm w0 P (w.setCell (a_ G 23) (Vb Vf r.draw)) G {r with gF:=r.draw}:=h.Uf _
 have HG:=gu (Nn h1 ⟨hf.draw,hf.draw,hf.tx,hf.tl⟩)
 have kF:=h.kF
 rw[hl]at kF
 have c17:=h.c17
 have c23:=h.c23
 have f23:=h.free 23
 clear h h1 hf
 go_enter func39,ntmps39
 go_wp2_with fail
 refine HG.mono ?_
 rintro ee u ⟨rfl,v,hu⟩
 have HU:=gu hu
 clear hu HG
 go_wp2
 go_returns
 exact⟨rfl,v,HU⟩
def Rf.more(r:Rf)(k:Nat):Rf:={r with again:=wrap64 (r.now+lQ k r.draw),sends:=(k:Int)+1}
theorem yI(h:Rm w0 P w G r)(hf:r.Fit)(hl:r.gK=1)(k:Nat)(hk:k<=3)(hs:r.sends=k)(hn: ¬r.now<r.again):f_ Vh 39 #[p_ G] w fun ee w'=>ee=.returned (.tuple #[])/\∃v,Rm w0 P w' G ((r.more k).pU 1 v):=by
 obtain⟨N,hN⟩:∃N,N=wrap64 (r.now+lQ k r.draw):=⟨_,rfl⟩
 have hw:IntKind.i64.wrap (r.now+lQ k r.draw)=N:=by rw[hN,l_]
 have HN:=gu hN
 have hw1:IntKind.i64.wrap ((k:Int)+1)=(k:Int)+1:=wrap_i64 _ (by omega) (by omega)
 have HF1:Hid ((r.more k).Fit):=gu ⟨hf.draw,hf.gF,hf.tx,hf.tl⟩
 have HL1:Hid ((r.more k).gK=1):=gu hl
 have HM:=gu h
 have HD:=gu hf.draw
 have HK:=gu hk
 have c16:=h.c16
 have c32:=h.c32
 have kF:=h.kF
 have qd:=h.qd
 rw[hl]at kF
 rw[hs]at qd
 have HSS:=gu hs
 have hge:r.again<=r.now:=by omega
 have hgd:decide (r.again<=r.now)=true:=by simpa using hge
 have hq4:((k:Int)==4)=false:=by rw[aD];omega
 clear h hf hn hN hs hk
 go_enter func39,ntmps39
 go_wp2
 go_quiet (fail)
 obtain⟨u,hu⟩:∃u,u=w.drewN nq:=⟨_,rfl⟩
 have HMu:Hid (Rm w0 P u G r):=gu (by rw[hu];exact HM.like ⟨rfl,rfl,rfl,rfl⟩)
 rw[<-hu]
 clear hu HM c16 c32 kF qd
 have c16:=HMu.c16
 have c32:=HMu.c32
 go_wp2
 go_quiet (fail)
 obtain⟨v,hv⟩:∃v,v=u.drewN nq:=⟨_,rfl⟩
 have HMv:Hid (Rm w0 P v G r):=gu (by rw[hv];exact HMu.like ⟨rfl,rfl,rfl,rfl⟩)
 rw[<-hv]
 clear hv HMu c16 c32
 have c16:=HMv.c16
 have c32:=HMv.c32
 have f32:=HMv.free 32
 have qd:=HMv.qd
 rw[gB HSS]at qd
 have HW1:Hid (f_ Vh 41 #[p_ G,Vb Vg k] v.drew fun ee w'=>ee=.returned (Vb Vg (lQ k r.draw))/\w'=v.drew):=gu (wK HMv.drew k (by have:=gB HK;omega) HD)
 go_wp2
 have H3:Hid (Rm w0 P ((v.setCell (a_ G 32) (Vb Vg N)).drew) G {r with again:=N}):=gu ((HMv.Si _).drew)
 have g33:=H3.qd
 rw[show({r with again:=N}:Rf).sends=(k:Int)from gB HSS]at g33
 have HG33:=gu g33
 clear g33
 go_region_held3 (fun u=>u.cell? (a_ G 16)=some (Vb Vg r.now)/\u.cell? (a_ G 33)=some (Vb Vg k)) (first|(go_keep;done)|exact⟨H3.c16,HG33⟩)
  (first|(go_at_call 41;refine HW1.mono ?_;rintro ee u ⟨rfl,rfl⟩))
 have H4:Hid (Rm w0 P (((v.setCell (a_ G 32) (Vb Vg N)).drew).setCell (a_ G 33) (Vb Vg ((k:Int)+1))) G (r.more k)):=gu (by
  have q:=H3.Tx ((k:Int)+1)
  rw[show r.more k={r with again:=N,sends:=(k:Int)+1}from by rw[gB HN];rfl]
  exact q)
 have HS:=gu (EU H4 HF1 HL1)
 have g33:=gB HG33
 have k33:=H3.free 33
 obtain⟨x,hx⟩:∃x,x=(v.setCell (a_ G 32) (Vb Vg N)).drew:=⟨_,rfl⟩
 rw[<-hx]at HS g33 k33 ⊢
 clear hx H3 HG33 H4 HF1 HMv c16 c32 f32 qd HW1
 go_wp2_with fail
 refine HS.mono ?_
 rintro ee u ⟨rfl,v9,hu⟩
 have HU:=gu hu
 clear hu HS
 go_wp2
 go_returns
 exact⟨rfl,v9,HU⟩
def Rf.ku(r:Rf):Rf:=if wrap64 (r.gZ+1)=3 then {r.nQ with gZ:=3,phase:=4}else {r.nQ with gZ:=wrap64 (r.gZ+1)}
theorem oM(h:Rm w0 P w G r)(tp:Option Addr)(ht:r.t=.pointer tp):f_ Vh 40 #[p_ G] w fun ee w'=>ee=.returned (.tuple #[])/\Rm w0 P w' G r.ku:=by
 have HDR:=gu (tO h tp ht)
 obtain⟨N,hN⟩:∃N,N=wrap64 (r.gZ+1):=⟨_,rfl⟩
 have hw:IntKind.i64.wrap (r.gZ+1)=N:=by rw[hN,l_]
 have HN:=gu hN
 clear h hN
 by_cases h3:N=3
 ·subst h3
  have HE:Hid (r.ku={r.nQ with gZ:=3,phase:=4}):=gu (by unfold Rf.ku;rw[ay HN.symm])
  go_enter func40,ntmps40
  go_wp2_with fail
  refine HDR.mono ?_
  rintro ee u ⟨rfl,hu⟩
  have c18:=hu.c18
  have f18:=hu.free 18
  have h1:=hu.UD 3
  have d18:=h1.c18
  have c34:=h1.c34
  have f34:=h1.free 34
  have H2:=gu (h1.UJ 4)
  clear hu h1 HDR
  rw[show r.nQ.gZ=r.gZ from rfl]at c18
  go_wp2
  go_end0
  rw[gB HE]
  exact⟨rfl,H2⟩
 ·have HE:Hid (r.ku={r.nQ with gZ:=N}):=gu (by unfold Rf.ku;rw[ax (by rw[<-gB HN];exact h3),<-gB HN])
  have hq3:(N==3)=false:=by simpa using h3
  clear h3
  go_enter func40,ntmps40
  go_wp2_with fail
  refine HDR.mono ?_
  rintro ee u ⟨rfl,hu⟩
  have c18:=hu.c18
  have f18:=hu.free 18
  have h1:=hu.UD N
  have d18:=h1.c18
  have H2:=gu h1
  clear hu h1 HDR
  rw[show r.nQ.gZ=r.gZ from rfl]at c18
  go_wp2
  go_end0
  rw[gB HE]
  exact⟨rfl,H2⟩
theorem xV(h:Rm w0 P w G r)(tp:Option Addr)(ht:r.t=.pointer tp)(hl:r.gK=1)(hs:r.sends=4)(hn: ¬r.now<r.again):f_ Vh 39 #[p_ G] w fun ee w'=>ee=.returned (.tuple #[])/\Rm w0 P w' G r.ku:=by
 have HM:=gu h
 have HT:=gu ht
 have c16:=h.c16
 have c32:=h.c32
 have kF:=h.kF
 have qd:=h.qd
 rw[hl]at kF
 rw[hs]at qd
 have hge:r.again<=r.now:=by omega
 have hgd:decide (r.again<=r.now)=true:=by simpa using hge
 clear h hn ht hs
 go_enter func39,ntmps39
 go_wp2
 go_quiet (fail)
 obtain⟨u,hu⟩:∃u,u=w.drewN nq:=⟨_,rfl⟩
 have HMu:Hid (Rm w0 P u G r):=gu (by rw[hu];exact HM.like ⟨rfl,rfl,rfl,rfl⟩)
 rw[<-hu]
 have HFF:=gu (oM HMu tp HT)
 clear hu HM c16 c32 kF qd HMu
 go_wp2_with fail
 refine HFF.mono ?_
 rintro ee u ⟨rfl,hu⟩
 have HU:=gu hu
 clear hu HFF
 go_wp2
 go_returns
 exact⟨rfl,HU⟩
theorem DW(h:Rm w0 P w G r)(hf:r.Fit)(fr wh:Int)(h1:0<=fr/\fr<=4294967295)(h2:0<=wh/\wh<=4294967295):f_ Vh 57 (rJ (some (a_ G 0)) fr wh) w fun ee w'=>ee=.returned (.tuple #[])/\∃v,Rm w0 P w' G (r.yR fr wh v):=by
 have hz:=Cq 1 [r.k0,r.k1,r.k2,r.k3,r.k4,r.k5] rfl fr [0,0,0,0,0,0] rfl wh
 have HW:Hid (∀u,f_ Vh 89 #[.agg (rA 1 r.k0.toNat r.k1.toNat r.k2.toNat r.k3.toNat r.k4.toNat r.k5.toNat fr 0 0 0 0 0 0 wh)] u fun ee w'=>ee=.returned (.tuple #[.string (rO.vE 1 [r.k0,r.k1,r.k2,r.k3,r.k4,r.k5] fr [0,0,0,0,0,0] wh),Vb Vg (rO.Bu 1)])/\gm u.heap.size u w'):=gu (fun u=>rO.kz 1 r.k0 r.k1 r.k2 r.k3 r.k4 r.k5 fr 0 0 0 0 0 0 wh u (by decide) (by decide) h1.1 h1.2 h2.1 h2.2)
 have HS:Hid (∀u,Rm w0 P u G r->f_ Vh 90 #[p_ G,.agg (rS 255 255 255 255 255 255),Vb Ve 2054,.string (rO.vE 1 [r.k0,r.k1,r.k2,r.k3,r.k4,r.k5] fr [0,0,0,0,0,0] wh)] u fun ee w'=>ee=.returned (.tuple #[])/\∃v,Rm w0 P w' G (r.yR fr wh v)):=gu (fun u hu=>sP hu 255 255 255 255 255 255 2054 _ _ _ hf.tx hf.tl (fun u=>og.kz 255 255 255 255 255 255 r.k0 r.k1 r.k2 r.k3 r.k4 r.k5 2054 _ u (by decide) (by decide) (by omega)))
 obtain⟨A,hA⟩:∃A,A=rO.vE 1 [r.k0,r.k1,r.k2,r.k3,r.k4,r.k5] fr [0,0,0,0,0,0] wh:=⟨_,rfl⟩
 obtain⟨ke,hke⟩:∃ke,ke=rO.Bu 1:=⟨_,rfl⟩
 rw[<-hA]at HW HS
 rw[<-hke]at HW
 have c1:=h.c1
 have c2:=h.c2
 have c3:=h.c3
 have c4:=h.c4
 have c5:=h.c5
 have c6:=h.c6
 have HM:=gu h
 clear h hz hA hke hf h1 h2
 go_enter func57,ntmps57
 go_wp2_with fail
 refine(HW _).mono ?_
 rintro ee u1 ⟨rfl,hb1⟩
 have HM1:=gu (HM.below hb1)
 clear hb1 HW HM c1 c2 c3 c4 c5 c6
 obtain⟨g0,g1,g2,g3,g4,g5⟩:=HM1.kL
 have HC:=gu (HS _ HM1)
 go_wp2_with fail
 refine HC.mono ?_
 rintro ee u2 ⟨rfl,v,h2⟩
 have H2:=gu h2
 clear h2 HC
 go_wp2
 go_end0
 exact⟨rfl,v,H2⟩
theorem lH(cd:UInt8)(rep:Bool)(gF cl yo ne d0 d1 d2 d3 d4 d5:Int)(v:Value)(os:Dh.gU)(h:Hs w v os)(hl:os.length<=268435456):
  f_ Vh 108 #[.agg #[.bool rep,Vb Vf gF,Vb Vf cl,Vb Vf yo,Vb Vf ne,Vb Vd d0,Vb Vd d1,Vb Vd d2,Vb Vd d3,Vb Vd d4,Vb Vd d5,v],Vb Vd cd.toNat] w fun e w'=>e=.returned (.tuple #[Vb Vg ((ja os cd).getD 0),.bool (ja os cd).isSome])/\gm w.heap.size w w':=by
 unfold ja
 by_cases h4:(jO os cd).length=4
 ·rw[ay h4];exact uE cd rep gF cl yo ne d0 d1 d2 d3 d4 d5 v os h hl h4
 ·rw[ax h4];exact uh cd rep gF cl yo ne d0 d1 d2 d3 d4 d5 v os h hl h4
structure Gq (w0:fV) (P:Nat->Prop) (G D:Nat) (row:Array Value) (v:Value) (os:Dh.gU) (u:fV) (r:Rf):Prop where
 rm:Rm w0 P u G r
 row:u.heap[D]?=some (.cells row 127 (0,0))
 hs:Hs u v os
 nD:D≠G
 nv:∀ad n cp,v=.slice (some ad) n cp->ad.block≠G
variable{D:Nat} {row:Array Value} {v:Value} {os:Dh.gU} {u u':fV}
theorem Gq.set(h:Gq w0 P G D row v os u r)(j:Nat)(x:Value)(hc:r.cells.setIfInBounds j x=r'.cells)(e1:r'.rv=r.rv)(e2:r'.tv=r.tv)(e3:r'.rl=r.rl)(e4:r'.tl=r.tl):Gq w0 P G D row v os (u.setCell (a_ G j) x) r':=
 {rm:=h.rm.set j x hc e1 e2 e3 e4
  row:=(R8 _ _ _ _ h.nD).trans h.row
  hs:=by
   obtain⟨sa,cp,e,hA⟩:=h.hs
   refine⟨sa,cp,e,fun i hi=> ?_⟩
   obtain⟨ad,e2,q1,q2⟩:=hA i hi
   have hne:ad.block≠G:=h.nv ad _ _ (by rw[e,e2])
   have hb:(ad.add (i*2)).block=ad.block:=by unfold Addr.add;split<;>rfl
   refine⟨ad,e2,?_,?_⟩
   ·rw[Vk (w:=u) (R8 _ _ _ _ (by rw[hb];exact hne))];exact q1
   ·rw[Vk (w:=u) (a:=(a_ ((ad.add (i*2)).block) ((ad.add (i*2)).off+1))) (R8 _ _ _ _ (by rw[hb];exact hne))];exact q2
  nD:=h.nD,nv:=h.nv}
theorem Gq.below(h:Gq w0 P G D row v os u r)(hb:gm u.heap.size u u'):Gq w0 P G D row v os u' r:=
 {rm:=h.rm.below hb,row:=(hb.block D (Vj h.row)).trans h.row,hs:=h.hs.below hb,nD:=h.nD,nv:=h.nv}
theorem Gq.like(h:Gq w0 P G D row v os u r)(k:Lk u u'):Gq w0 P G D row v os u' r:=
 h.below ⟨k.os,k.tape,k.output,by rw[k.heap];exact ai _,fun i _=>by rw[k.heap]⟩
theorem J6{l:List UInt8}(h:4<=l.length):∃a b c d q,l=a::b::c::d::q:=by
 match l,h with
 |a::b::c::d::q,_=>exact⟨a,b,c,d,q,rfl⟩
theorem Na(a b c d:UInt8)(q:List UInt8):(⟨(a::b::c::d::q).toArray⟩:ByteArray).extract 0 4=⟨#[a,b,c,d]⟩:=by
 apply aC
 simp[ByteArray.extract,ByteArray.copySlice]
theorem CQ{l:List UInt8}(h:l.length<4):yJ.j6 l=0:=by
 match l,h with
 |[],_=>rfl
 |[a],_=>rfl
 |[a,b],_=>rfl
 |[a,b,c],_=>rfl
end Ref
namespace Ref
open Bs Js
variable{w0:fV} {P:Nat→Prop} {w w':fV} {G:Nat} {r r':Rf}
variable{z1 z2 z3 z4 z5 z6 z7 z8 z9 z10 z11 z12 z13 z14 z15 z16 z17 z18 z19 z20 z21 z22 z23 z24 z25 z26 z27 z28 z29 z30 z31 z32 z33 z34 z35 z36 z37 z38 z39 z40 z41 z42 z43 z44 z45 z46 z47 z48 z49 z50 z51 z52 z53 z54 z55 z56 z57 z58 z59 z60 z61 z62 z63 z64 z65 z66 z67 z68 z69 z70 z71 z72 z73 z74 z75 z76 z77 z78 z79 z80 z81 z82 z83 z84 z85 z86 z87 z88 z89 z90 z91 z92 z93 z94 z95 z96 z97 z98 z99 z100 z101 z102 z103 z104 z105 z106 z107 z108 z109 z110 z111 z112 z113 z114 z115 z116 z117 z118 z119 z120 z121 z122 z123 z124 z125 z126 z127 z128 z129 z130 z131 z132 z133 z134 z135 z136 z137 z138 z139 z140 z141 z142 z143 z144 z145 z146 z147 z148 z149 z150 z151 z152 z153 z154 z155 z156 z157 z158 z159 z160 z161 z162 z163 z164 z165 z166 z167 z168 z169 z170 z171 z172 z173 z174 z175 z176 z177 z178 z179 z180 z181 z182 z183 z184 z185 z186 z187 z188 z189 z190 z191 z192 z193 z194 z195 z196 z197 z198 z199 z200 z201 z202 z203 z204 z205 z206 z207 z208 z209 z210 z211 z212 z213 z214 z215 z216 z217 z218:Value}
def Jg:Nat->Code->Code
 |0,c=>c
 |n+1,.seq _ b=>Jg n b
 |_,c=>c
noncomputable def Qp (k:Nat):Code:=Jg k (f109.body.getD .skip)
theorem Ry(hf:r.Fit)(h2:r.gK=2)(ha:0<=r.iB/\r.iB<=4294967295)(rep:Bool)(gF cl yo ne d0 d1 d2 d3 d4 d5:Int)(os:Dh.gU)(sa:Option Addr)(cp:Nat)(hh:os.length<=268435456)(fr t:Int)(htb:0<=t/\t<=4294967295)(D:Nat)(y:fV)(hQ:Gq w0 P G D (rD rep gF cl yo ne d0 d1 d2 d3 d4 d5 sa os.length cp) (.slice sa os.length cp) os (y) (r.g4 fr ne ((ja os 1).getD 4294967295) (yJ.j6 (jO os 3)) (oJ r.now t (ja os 58) (ja os 59)))):
  Code.wp Vh (Qp 15) (bodyPost Vh f109 (fun ee w'=>ee=.returned (.tuple #[])/\∃v',Rm w0 P w' G ((r.nG fr ne os t).yR 0 r.iB v'))) ⟨List.toArray ((p_ G)::z1::z2::z3::z4::z5::z6::z7::z8::z9::z10::z11::z12::z13::z14::z15::z16::z17::z18::z19::z20::z21::z22::z23::z24::z25::z26::z27::z28::z29::z30::z31::z32::z33::z34::z35::z36::z37::z38::z39::z40::z41::z42::z43::z44::z45::z46::z47::z48::z49::z50::z51::z52::z53::z54::z55::z56::z57::z58::z59::z60::z61::z62::z63::z64::z65::z66::z67::z68::z69::z70::z71::z72::z73::z74::z75::z76::z77::z78::z79::z80::z81::z82::z83::z84::z85::z86::z87::z88::z89::z90::z91::z92::z93::z94::z95::z96::z97::z98::z99::z100::z101::z102::z103::z104::z105::z106::z107::z108::z109::z110::z111::z112::z113::z114::z115::z116::z117::z118::z119::z120::z121::z122::z123::z124::z125::z126::z127::z128::z129::z130::z131::z132::z133::z134::z135::z136::z137::z138::z139::z140::z141::z142::z143::z144::z145::z146::z147::z148::z149::z150::z151::z152::z153::z154::z155::z156::z157::z158::z159::z160::z161::z162::z163::z164::z165::z166::z167::z168::z169::z170::z171::z172::z173::z174::z175::z176::z177::z178::z179::z180::z181::z182::z183::z184::z185::z186::z187::z188::z189::z190::z191::z192::z193::z194::z195::z196::z197::z198::z199::z200::z201::z202::z203::z204::z205::z206::z207::z208::z209::z210::z211::z212::z213::z214::z215::z216::z217::z218:: []),[]⟩ y:=by
 have HQ:=gu hQ
 have HF:=gu hf
 have HA:=gu ha
 have HH2:=gu h2
 have HTB:=gu htb
 have HHL:=gu hh
 have HNUM:Hid (∀(cd:UInt8) (u:fV) (r':Rf),Gq w0 P G D (rD rep gF cl yo ne d0 d1 d2 d3 d4 d5 sa os.length cp) (.slice sa os.length cp) os u r'->f_ Vh 108 #[.agg (rD rep gF cl yo ne d0 d1 d2 d3 d4 d5 sa os.length cp),Vb Vd cd.toNat] u fun e w'=>e=.returned (.tuple #[Vb Vg ((ja os cd).getD 0),.bool (ja os cd).isSome])/\gm u.heap.size u w'):=gu (fun cd u r' hu=>lH cd rep gF cl yo ne d0 d1 d2 d3 d4 d5 _ os hu.hs hh)
 have hDG: ¬D=G:=hQ.nD
 have hGD: ¬G=D:=fun e=>hQ.nD e.symm
 clear hQ hf ha h2 htb hh
 conv=>arg 2;whnf
 obtain⟨M,hM⟩:∃M,M=(ja os 1).getD 4294967295:=⟨_,rfl⟩
 obtain⟨R0,hR⟩:∃R0,R0=yJ.j6 (jO os 3):=⟨_,rfl⟩
 obtain⟨T,hT⟩:∃T,T=oJ r.now t (ja os 58) (ja os 59):=⟨_,rfl⟩
 rw[<-hM,<-hR,<-hT]at HQ
 have HE:Hid (r.nG fr ne os t=r.g5 fr ne M R0 T):=gu (by unfold Rf.nG;rw[hM,hR,hT])
 clear hM hR hT
 have kF:y.cell? (a_ G 22)=some (Vb Vg 2):=by rw[<-gB HH2];exact HQ.rm.kF
 have f22:=HQ.rm.free 22
 obtain⟨NA,hNA⟩:∃NA,NA=wrap64 (r.now+2):=⟨_,rfl⟩
 have zA:IntKind.i64.wrap (r.now+2)=NA:=by rw[hNA,l_]
 have HNA:=gu hNA
 clear hNA
 have HQA:Hid (Gq w0 P G D (rD rep gF cl yo ne d0 d1 d2 d3 d4 d5 sa os.length cp) (.slice sa os.length cp) os (y.setCell (a_ G 22) (Vb Vg 3)) ({r with iO:=fr,src:=if ne=0 then fr else ne,mask:=M,yz:=R0,t1:=T.1,t2:=T.2.1,Nj:=T.2.2,gK:=3})):=gu (HQ.set 22 _ rfl rfl rfl rfl rfl)
 have c16:(y.setCell (a_ G 22) (Vb Vg 3)).cell? (a_ G 16)=some (Vb Vg r.now):=HQA.rm.c16
 have c32:=HQA.rm.c32
 have f32:=HQA.rm.free 32
 have HQB:Hid (Rm w0 P ((y.setCell (a_ G 22) (Vb Vg 3)).setCell (a_ G 32) (Vb Vg NA)) G (r.g5 fr ne M R0 T)):=gu (by
  have q:=HQA.rm.set (r':=r.g5 fr ne M R0 T) 32 (Vb Vg (wrap64 (r.now+2))) rfl rfl rfl rfl rfl
  rw[<-gB HNA]at q
  exact q)
 have c24:((y.setCell (a_ G 22) (Vb Vg 3)).setCell (a_ G 32) (Vb Vg NA)).cell? (a_ G 24)=some (Vb Vf r.iB):=HQB.c24
 have HASK:=gu (DW HQB ⟨HF.draw,HF.gF,HF.tx,HF.tl⟩ 0 r.iB ⟨by decide,by decide⟩ HA)
 go_wp2_with fail
 refine HASK.mono ?_
 rintro ee uz ⟨rfl,vz,hz⟩
 have HZ:=gu hz
 clear hz HASK
 go_wp2
 go_returns
 refine⟨rfl,vz,?_⟩
 rw[gB HE]
 exact HZ
def Ra:Code->Code
 | .seq a _=>a
 |c=>c
def QM:Code->Code
 | .seq _ b=>b
 |c=>c
def LD:Code->Code
 | .cond _ a _=>a
 |c=>c
theorem Oz(rep:Bool)(gF cl yo ne d0 d1 d2 d3 d4 d5:Int)(os:Dh.gU)(sa:Option Addr)(cp:Nat)(fr t M R0:Int)(T:Int×Int×Int)(D:Nat)(K:Act->fV->Prop)(Q:Exit->Act->fV->Prop)(n58 n59 N1 N2:Int)(b58 b59:Bool)(y:fV)(hQ:Gq w0 P G D (rD rep gF cl yo ne d0 d1 d2 d3 d4 d5 sa os.length cp) (.slice sa os.length cp) os (y) (r.g4 fr ne M R0 (N1,N2,0)))(hall: ¬(b58=true/\b59=true/\n58<n59/\n59<t))(hT:T=(N1,N2,wrap64 (r.now+t)))(hK:∀(q153 q154 q155 q156 q157 q158 q159 q160 q161 q162 q163 q164 q165 q166 q167 q168 q169 q170 q171 q172 q173 q174 q175 q176 q177 q178 q179 q180 q181 q182 q183 q184 q185 q186 q187 q188 q189 q190 q191 q192 q193:Value) (wc:fV),Gq w0 P G D (rD rep gF cl yo ne d0 d1 d2 d3 d4 d5 sa os.length cp) (.slice sa os.length cp) os wc (r.g4 fr ne M R0 T)->K ⟨List.toArray ((p_ G)::z1::z2::z3::z4::z5::Vb Vg t::z7::z8::z9::z10::z11::z12::Vb Vg n58::.bool b58::Vb Vg n59::.bool b59::z17::z18::z19::z20::z21::z22::z23::z24::z25::z26::z27::z28::z29::z30::z31::z32::z33::z34::z35::z36::z37::z38::z39::z40::z41::z42::z43::z44::z45::z46::z47::z48::z49::z50::z51::z52::z53::z54::z55::z56::z57::z58::z59::z60::z61::z62::z63::z64::z65::z66::z67::z68::z69::z70::z71::z72::z73::z74::z75::z76::z77::z78::z79::z80::z81::z82::z83::z84::z85::z86::z87::z88::z89::z90::z91::z92::z93::z94::z95::z96::z97::z98::z99::z100::z101::z102::z103::z104::z105::z106::z107::z108::z109::z110::z111::z112::z113::z114::z115::z116::z117::z118::z119::z120::z121::z122::z123::z124::z125::z126::z127::z128::z129::z130::z131::z132::z133::z134::z135::z136::z137::z138::z139::z140::z141::z142::z143::z144::z145::z146::z147::z148::z149::z150::z151::z152::q153::q154::q155::q156::q157::q158::q159::q160::q161::q162::q163::q164::q165::q166::q167::q168::q169::q170::q171::q172::q173::q174::q175::q176::q177::q178::q179::q180::q181::q182::q183::q184::q185::q186::q187::q188::q189::q190::q191::q192::q193::z194::z195::z196::z197::z198::z199::z200::z201::z202::z203::z204::z205::z206::z207::z208::z209::z210::z211::z212::z213::z214::z215::z216::z217::z218:: []),[]⟩ wc):
  Code.wp Vh (Jg 4 (LD (QM (Ra (Qp 14))))) (Exit.then K Q) ⟨List.toArray ((p_ G)::z1::z2::z3::z4::z5::Vb Vg t::z7::z8::z9::z10::z11::z12::Vb Vg n58::.bool b58::Vb Vg n59::.bool b59::z17::z18::z19::z20::z21::z22::z23::z24::z25::z26::z27::z28::z29::z30::z31::z32::z33::z34::z35::z36::z37::z38::z39::z40::z41::z42::z43::z44::z45::z46::z47::z48::z49::z50::z51::z52::z53::z54::z55::z56::z57::z58::z59::z60::z61::z62::z63::z64::z65::z66::z67::z68::z69::z70::z71::z72::z73::z74::z75::z76::z77::z78::z79::z80::z81::z82::z83::z84::z85::z86::z87::z88::z89::z90::z91::z92::z93::z94::z95::z96::z97::z98::z99::z100::z101::z102::z103::z104::z105::z106::z107::z108::z109::z110::z111::z112::z113::z114::z115::z116::z117::z118::z119::z120::z121::z122::z123::z124::z125::z126::z127::z128::z129::z130::z131::z132::z133::z134::z135::z136::z137::z138::z139::z140::z141::z142::z143::z144::z145::z146::z147::z148::z149::z150::z151::z152::z153::z154::z155::z156::z157::z158::z159::z160::z161::z162::z163::z164::z165::z166::z167::z168::z169::z170::z171::z172::z173::z174::z175::z176::z177::z178::z179::z180::z181::z182::z183::z184::z185::z186::z187::z188::z189::z190::z191::z192::z193::z194::z195::z196::z197::z198::z199::z200::z201::z202::z203::z204::z205::z206::z207::z208::z209::z210::z211::z212::z213::z214::z215::z216::z217::z218:: []),[]⟩ y:=by
 have HP2:=gu hQ
 have HK:=gu hK
 have c16:y.cell? (a_ G 16)=some (Vb Vg r.now):=hQ.rm.c16
 obtain⟨N3,hN3⟩:∃N3,N3=wrap64 (r.now+t):=⟨_,rfl⟩
 have z3:IntKind.i64.wrap (r.now+t)=N3:=by rw[hN3,l_]
 have HN3:=gu hN3
 clear hQ hK hN3
 conv=>arg 2;whnf
 have HT2:Hid (T=(N1,N2,N3)):=gu (by rw[hT,gB HN3])
 clear hT
 have c31:=HP2.rm.c31
 have f31:=HP2.rm.free 31
 have HP2a:Hid (Gq w0 P G D (rD rep gF cl yo ne d0 d1 d2 d3 d4 d5 sa os.length cp) (.slice sa os.length cp) os ((y).setCell (a_ G 31) (Vb Vg N3)) (r.g4 fr ne M R0 (N1,N2,N3))):=gu (HP2.set 31 _ rfl rfl rfl rfl rfl)
 have HFIN:Hid (Gq w0 P G D (rD rep gF cl yo ne d0 d1 d2 d3 d4 d5 sa os.length cp) (.slice sa os.length cp) os ((y).setCell (a_ G 31) (Vb Vg N3)) (r.g4 fr ne M R0 T)):=gu (by rw[gB HT2];exact HP2a)
 cases b58 with
 |false=>
  clear hall
  go_wp2
  exact HK _ _ _ _ _ _ _ _ _ _ _ _ _ _ _ _ _ _ _ _ _ _ _ _ _ _ _ _ _ _ _ _ _ _ _ _ _ _ _ _ _ _ HFIN
 |true=>
  cases b59 with
  |false=>
   clear hall
   go_wp2
   exact HK _ _ _ _ _ _ _ _ _ _ _ _ _ _ _ _ _ _ _ _ _ _ _ _ _ _ _ _ _ _ _ _ _ _ _ _ _ _ _ _ _ _ HFIN
  |true=>
   by_cases k1:n58<n59
   ·have k2: ¬n59<t:=fun q=>hall ⟨rfl,rfl,k1,q⟩
    have de1:decide (n58<n59)=true:=by simpa using k1
    have de2:decide (n59<t)=false:=by simpa using k2
    clear hall
    go_wp2
    exact HK _ _ _ _ _ _ _ _ _ _ _ _ _ _ _ _ _ _ _ _ _ _ _ _ _ _ _ _ _ _ _ _ _ _ _ _ _ _ _ _ _ _ HFIN
   ·have de1:decide (n58<n59)=false:=by simpa using k1
    clear hall
    go_wp2
    exact HK _ _ _ _ _ _ _ _ _ _ _ _ _ _ _ _ _ _ _ _ _ _ _ _ _ _ _ _ _ _ _ _ _ _ _ _ _ _ _ _ _ _ HFIN
theorem MU(rep:Bool)(gF cl yo ne d0 d1 d2 d3 d4 d5:Int)(os:Dh.gU)(sa:Option Addr)(cp:Nat)(fr t M R0:Int)(T:Int×Int×Int)(D:Nat)(K:Act->fV->Prop)(Q:Exit->Act->fV->Prop)(n58 n59 N1 N2:Int)(b58 b59:Bool)(y:fV)(hQ:Gq w0 P G D (rD rep gF cl yo ne d0 d1 d2 d3 d4 d5 sa os.length cp) (.slice sa os.length cp) os (y) (r.g4 fr ne M R0 (N1,N2,0)))(hall:b58=true/\b59=true/\n58<n59/\n59<t)(hT:T=(wrap64 (r.now+n58),wrap64 (r.now+n59),wrap64 (r.now+t)))(hK:∀(q153 q154 q155 q156 q157 q158 q159 q160 q161 q162 q163 q164 q165 q166 q167 q168 q169 q170 q171 q172 q173 q174 q175 q176 q177 q178 q179 q180 q181 q182 q183 q184 q185 q186 q187 q188 q189 q190 q191 q192 q193:Value) (wc:fV),Gq w0 P G D (rD rep gF cl yo ne d0 d1 d2 d3 d4 d5 sa os.length cp) (.slice sa os.length cp) os wc (r.g4 fr ne M R0 T)->K ⟨List.toArray ((p_ G)::z1::z2::z3::z4::z5::Vb Vg t::z7::z8::z9::z10::z11::z12::Vb Vg n58::.bool b58::Vb Vg n59::.bool b59::z17::z18::z19::z20::z21::z22::z23::z24::z25::z26::z27::z28::z29::z30::z31::z32::z33::z34::z35::z36::z37::z38::z39::z40::z41::z42::z43::z44::z45::z46::z47::z48::z49::z50::z51::z52::z53::z54::z55::z56::z57::z58::z59::z60::z61::z62::z63::z64::z65::z66::z67::z68::z69::z70::z71::z72::z73::z74::z75::z76::z77::z78::z79::z80::z81::z82::z83::z84::z85::z86::z87::z88::z89::z90::z91::z92::z93::z94::z95::z96::z97::z98::z99::z100::z101::z102::z103::z104::z105::z106::z107::z108::z109::z110::z111::z112::z113::z114::z115::z116::z117::z118::z119::z120::z121::z122::z123::z124::z125::z126::z127::z128::z129::z130::z131::z132::z133::z134::z135::z136::z137::z138::z139::z140::z141::z142::z143::z144::z145::z146::z147::z148::z149::z150::z151::z152::q153::q154::q155::q156::q157::q158::q159::q160::q161::q162::q163::q164::q165::q166::q167::q168::q169::q170::q171::q172::q173::q174::q175::q176::q177::q178::q179::q180::q181::q182::q183::q184::q185::q186::q187::q188::q189::q190::q191::q192::q193::z194::z195::z196::z197::z198::z199::z200::z201::z202::z203::z204::z205::z206::z207::z208::z209::z210::z211::z212::z213::z214::z215::z216::z217::z218:: []),[]⟩ wc):
  Code.wp Vh (Jg 4 (LD (QM (Ra (Qp 14))))) (Exit.then K Q) ⟨List.toArray ((p_ G)::z1::z2::z3::z4::z5::Vb Vg t::z7::z8::z9::z10::z11::z12::Vb Vg n58::.bool b58::Vb Vg n59::.bool b59::z17::z18::z19::z20::z21::z22::z23::z24::z25::z26::z27::z28::z29::z30::z31::z32::z33::z34::z35::z36::z37::z38::z39::z40::z41::z42::z43::z44::z45::z46::z47::z48::z49::z50::z51::z52::z53::z54::z55::z56::z57::z58::z59::z60::z61::z62::z63::z64::z65::z66::z67::z68::z69::z70::z71::z72::z73::z74::z75::z76::z77::z78::z79::z80::z81::z82::z83::z84::z85::z86::z87::z88::z89::z90::z91::z92::z93::z94::z95::z96::z97::z98::z99::z100::z101::z102::z103::z104::z105::z106::z107::z108::z109::z110::z111::z112::z113::z114::z115::z116::z117::z118::z119::z120::z121::z122::z123::z124::z125::z126::z127::z128::z129::z130::z131::z132::z133::z134::z135::z136::z137::z138::z139::z140::z141::z142::z143::z144::z145::z146::z147::z148::z149::z150::z151::z152::z153::z154::z155::z156::z157::z158::z159::z160::z161::z162::z163::z164::z165::z166::z167::z168::z169::z170::z171::z172::z173::z174::z175::z176::z177::z178::z179::z180::z181::z182::z183::z184::z185::z186::z187::z188::z189::z190::z191::z192::z193::z194::z195::z196::z197::z198::z199::z200::z201::z202::z203::z204::z205::z206::z207::z208::z209::z210::z211::z212::z213::z214::z215::z216::z217::z218:: []),[]⟩ y:=by
 have HP2:=gu hQ
 have HK:=gu hK
 have c16:y.cell? (a_ G 16)=some (Vb Vg r.now):=hQ.rm.c16
 obtain⟨N3,hN3⟩:∃N3,N3=wrap64 (r.now+t):=⟨_,rfl⟩
 have z3:IntKind.i64.wrap (r.now+t)=N3:=by rw[hN3,l_]
 have HN3:=gu hN3
 clear hQ hK hN3
 conv=>arg 2;whnf
 obtain⟨rfl,rfl,k1,k2⟩:=hall
 obtain⟨L1,hL1⟩:∃L1,L1=wrap64 (r.now+n58):=⟨_,rfl⟩
 obtain⟨L2,hL2⟩:∃L2,L2=wrap64 (r.now+n59):=⟨_,rfl⟩
 have l1:IntKind.i64.wrap (r.now+n58)=L1:=by rw[hL1,l_]
 have l2:IntKind.i64.wrap (r.now+n59)=L2:=by rw[hL2,l_]
 have HT2:Hid (T=(L1,L2,N3)):=gu (by rw[hT,gB HN3,hL1,hL2])
 have de1:decide (n58<n59)=true:=by simpa using k1
 have de2:decide (n59<t)=true:=by simpa using k2
 clear hL1 hL2 hT
 have yg:=HP2.rm.yg
 have f29:=HP2.rm.free 29
 have HP2a:Hid (Gq w0 P G D (rD rep gF cl yo ne d0 d1 d2 d3 d4 d5 sa os.length cp) (.slice sa os.length cp) os ((y).setCell (a_ G 29) (Vb Vg L1)) (r.g4 fr ne M R0 (L1,N2,0))):=gu (HP2.set 29 _ rfl rfl rfl rfl rfl)
 have yE:=HP2a.rm.yE
 have f30:=HP2a.rm.free 30
 have HP2b:Hid (Gq w0 P G D (rD rep gF cl yo ne d0 d1 d2 d3 d4 d5 sa os.length cp) (.slice sa os.length cp) os (((y).setCell (a_ G 29) (Vb Vg L1)).setCell (a_ G 30) (Vb Vg L2)) (r.g4 fr ne M R0 (L1,L2,0))):=gu (HP2a.set 30 _ rfl rfl rfl rfl rfl)
 have c31:=HP2b.rm.c31
 have f31:=HP2b.rm.free 31
 have HP2c:Hid (Gq w0 P G D (rD rep gF cl yo ne d0 d1 d2 d3 d4 d5 sa os.length cp) (.slice sa os.length cp) os ((((y).setCell (a_ G 29) (Vb Vg L1)).setCell (a_ G 30) (Vb Vg L2)).setCell (a_ G 31) (Vb Vg N3)) (r.g4 fr ne M R0 (L1,L2,N3))):=gu (HP2b.set 31 _ rfl rfl rfl rfl rfl)
 have HFIN:Hid (Gq w0 P G D (rD rep gF cl yo ne d0 d1 d2 d3 d4 d5 sa os.length cp) (.slice sa os.length cp) os ((((y).setCell (a_ G 29) (Vb Vg L1)).setCell (a_ G 30) (Vb Vg L2)).setCell (a_ G 31) (Vb Vg N3)) (r.g4 fr ne M R0 T)):=gu (by rw[gB HT2];exact HP2c)
 have a16:(y.setCell (a_ G 29) (Vb Vg L1)).cell? (a_ G 16)=some (Vb Vg r.now):=HP2a.rm.c16
 have b16:((y.setCell (a_ G 29) (Vb Vg L1)).setCell (a_ G 30) (Vb Vg L2)).cell? (a_ G 16)=some (Vb Vg r.now):=HP2b.rm.c16
 go_wp2
 exact HK _ _ _ _ _ _ _ _ _ _ _ _ _ _ _ _ _ _ _ _ _ _ _ _ _ _ _ _ _ _ _ _ _ _ _ _ _ _ _ _ _ _ HFIN
theorem Nu(rep:Bool)(gF cl yo ne d0 d1 d2 d3 d4 d5:Int)(os:Dh.gU)(sa:Option Addr)(cp:Nat)(fr t M R0:Int)(T:Int×Int×Int)(D:Nat)(K:Act->fV->Prop)(Q:Exit->Act->fV->Prop)(hh:os.length<=268435456)(htb:0<=t/\t<=4294967295)(h9: ¬t=4294967295)(hT:T=(oJ r.now t (ja os 58) (ja os 59)))(y:fV)(hQ:Gq w0 P G D (rD rep gF cl yo ne d0 d1 d2 d3 d4 d5 sa os.length cp) (.slice sa os.length cp) os (y) (r.g4 fr ne M R0 (0,0,0)))(hK:∀(q13 q14 q15 q16 q122 q123 q124 q125 q126 q127 q128 q129 q130 q131 q132 q133 q134 q135 q136 q137 q138 q139 q140 q141 q142 q143 q144 q145 q146 q147 q148 q149 q150 q151 q152 q153 q154 q155 q156 q157 q158 q159 q160 q161 q162 q163 q164 q165 q166 q167 q168 q169 q170 q171 q172 q173 q174 q175 q176 q177 q178 q179 q180 q181 q182 q183 q184 q185 q186 q187 q188 q189 q190 q191 q192 q193:Value) (wc:fV),Gq w0 P G D (rD rep gF cl yo ne d0 d1 d2 d3 d4 d5 sa os.length cp) (.slice sa os.length cp) os wc (r.g4 fr ne M R0 T)->K ⟨List.toArray ((p_ G)::z1::z2::z3::(p_ D)::z5::Vb Vg t::z7::z8::z9::z10::z11::z12::q13::q14::q15::q16::z17::z18::z19::z20::z21::z22::z23::z24::z25::z26::z27::z28::z29::z30::z31::z32::z33::z34::z35::z36::z37::z38::z39::z40::z41::z42::z43::z44::z45::z46::z47::z48::z49::z50::z51::z52::z53::z54::z55::z56::z57::z58::z59::z60::z61::z62::z63::z64::z65::z66::z67::z68::z69::z70::z71::z72::z73::z74::z75::z76::z77::z78::z79::z80::z81::z82::z83::z84::z85::z86::z87::z88::z89::z90::z91::z92::z93::z94::z95::z96::z97::z98::z99::z100::z101::z102::z103::z104::z105::z106::z107::z108::z109::z110::z111::z112::z113::z114::z115::z116::z117::z118::z119::z120::z121::q122::q123::q124::q125::q126::q127::q128::q129::q130::q131::q132::q133::q134::q135::q136::q137::q138::q139::q140::q141::q142::q143::q144::q145::q146::q147::q148::q149::q150::q151::q152::q153::q154::q155::q156::q157::q158::q159::q160::q161::q162::q163::q164::q165::q166::q167::q168::q169::q170::q171::q172::q173::q174::q175::q176::q177::q178::q179::q180::q181::q182::q183::q184::q185::q186::q187::q188::q189::q190::q191::q192::q193::z194::z195::z196::z197::z198::z199::z200::z201::z202::z203::z204::z205::z206::z207::z208::z209::z210::z211::z212::z213::z214::z215::z216::z217::z218:: []),[]⟩ wc):
  Code.wp Vh (LD (QM (Ra (Qp 14)))) (Exit.then K Q) ⟨List.toArray ((p_ G)::z1::z2::z3::(p_ D)::z5::Vb Vg t::z7::z8::z9::z10::z11::z12::z13::z14::z15::z16::z17::z18::z19::z20::z21::z22::z23::z24::z25::z26::z27::z28::z29::z30::z31::z32::z33::z34::z35::z36::z37::z38::z39::z40::z41::z42::z43::z44::z45::z46::z47::z48::z49::z50::z51::z52::z53::z54::z55::z56::z57::z58::z59::z60::z61::z62::z63::z64::z65::z66::z67::z68::z69::z70::z71::z72::z73::z74::z75::z76::z77::z78::z79::z80::z81::z82::z83::z84::z85::z86::z87::z88::z89::z90::z91::z92::z93::z94::z95::z96::z97::z98::z99::z100::z101::z102::z103::z104::z105::z106::z107::z108::z109::z110::z111::z112::z113::z114::z115::z116::z117::z118::z119::z120::z121::z122::z123::z124::z125::z126::z127::z128::z129::z130::z131::z132::z133::z134::z135::z136::z137::z138::z139::z140::z141::z142::z143::z144::z145::z146::z147::z148::z149::z150::z151::z152::z153::z154::z155::z156::z157::z158::z159::z160::z161::z162::z163::z164::z165::z166::z167::z168::z169::z170::z171::z172::z173::z174::z175::z176::z177::z178::z179::z180::z181::z182::z183::z184::z185::z186::z187::z188::z189::z190::z191::z192::z193::z194::z195::z196::z197::z198::z199::z200::z201::z202::z203::z204::z205::z206::z207::z208::z209::z210::z211::z212::z213::z214::z215::z216::z217::z218:: []),[]⟩ y:=by
 have HQ4:=gu hQ
 have HK:=gu hK
 have HNUM:Hid (∀(cd:UInt8) (u:fV) (r':Rf),Gq w0 P G D (rD rep gF cl yo ne d0 d1 d2 d3 d4 d5 sa os.length cp) (.slice sa os.length cp) os u r'->f_ Vh 108 #[.agg (rD rep gF cl yo ne d0 d1 d2 d3 d4 d5 sa os.length cp),Vb Vd cd.toNat] u fun e w'=>e=.returned (.tuple #[Vb Vg ((ja os cd).getD 0),.bool (ja os cd).isSome])/\gm u.heap.size u w'):=gu (fun cd u r' hu=>lH cd rep gF cl yo ne d0 d1 d2 d3 d4 d5 _ os hu.hs hh)
 have hDG: ¬D=G:=hQ.nD
 have hGD: ¬G=D:=fun e=>hQ.nD e.symm
 clear hQ hK hh
 conv=>arg 2;whnf
 have HH9:=gu h9
 have e2:t.tdiv 2=t/2:=dG htb.1
 have e8:t.tdiv 8=t/8:=dG htb.1
 have w2:IntKind.i64.wrap (t/2)=t/2:=by rw[l_];unfold wrap64;omega
 have w8:IntKind.i64.wrap (t/8)=t/8:=by rw[l_];unfold wrap64;omega
 have w7:IntKind.i64.wrap (t/8*7)=t/8*7:=by rw[l_];unfold wrap64;omega
 obtain⟨N1,hN1⟩:∃N1,N1=wrap64 (r.now+t/2):=⟨_,rfl⟩
 obtain⟨N2,hN2⟩:∃N2,N2=wrap64 (r.now+t/8*7):=⟨_,rfl⟩
 obtain⟨N3,hN3⟩:∃N3,N3=wrap64 (r.now+t):=⟨_,rfl⟩
 have z1:IntKind.i64.wrap (r.now+t/2)=N1:=by rw[hN1,l_]
 have z2:IntKind.i64.wrap (r.now+t/8*7)=N2:=by rw[hN2,l_]
 have z3:IntKind.i64.wrap (r.now+t)=N3:=by rw[hN3,l_]
 have HNN:=gu (And.intro hN1 (And.intro hN2 hN3))
 clear hN1 hN2 hN3 h9 htb
 have c16:y.cell? (a_ G 16)=some (Vb Vg r.now):=HQ4.rm.c16
 obtain⟨x0,x1,x2,x3,x4,x5,x6,x7,x8,x9,x10,x11⟩:=jl HQ4.row
 have yg:=HQ4.rm.yg
 have f29:=HQ4.rm.free 29
 have HQ4a:Hid (Gq w0 P G D (rD rep gF cl yo ne d0 d1 d2 d3 d4 d5 sa os.length cp) (.slice sa os.length cp) os ((y).setCell (a_ G 29) (Vb Vg N1)) (r.g4 fr ne M R0 (N1,0,0))):=gu (HQ4.set 29 _ rfl rfl rfl rfl rfl)
 have yE:=HQ4a.rm.yE
 have f30:=HQ4a.rm.free 30
 have HQ4b:Hid (Gq w0 P G D (rD rep gF cl yo ne d0 d1 d2 d3 d4 d5 sa os.length cp) (.slice sa os.length cp) os (((y).setCell (a_ G 29) (Vb Vg N1)).setCell (a_ G 30) (Vb Vg N2)) (r.g4 fr ne M R0 (N1,N2,0))):=gu (HQ4a.set 30 _ rfl rfl rfl rfl rfl)
 have d16:(y.setCell (a_ G 29) (Vb Vg N1)).cell? (a_ G 16)=some (Vb Vg r.now):=HQ4a.rm.c16
 have HN58:=gu (HNUM 58 _ _ HQ4b)
 obtain⟨b58,hb58⟩:∃b,b=(ja os 58).isSome:=⟨_,rfl⟩
 obtain⟨n58,hn58⟩:∃n,n=(ja os 58).getD 0:=⟨_,rfl⟩
 obtain⟨b59,hb59⟩:∃b,b=(ja os 59).isSome:=⟨_,rfl⟩
 obtain⟨n59,hn59⟩:∃n,n=(ja os 59).getD 0:=⟨_,rfl⟩
 rw[<-hb58,<-hn58]at HN58
 have HYES:Hid (b58=true->b59=true->n58<n59->n59<t->oJ r.now t (ja os 58) (ja os 59)=(wrap64 (r.now+n58),wrap64 (r.now+n59),wrap64 (r.now+t))):=gu (fun q1 q2 q3 q4=>by
  unfold oJ
  rw[ax (gB HH9)]
  rw[hb58]at q1
  rw[hb59]at q2
  cases hx:ja os 58 with
  |none=>rw[hx]at q1;cases q1
  |some x=>
   cases hy:ja os 59 with
   |none=>rw[hy]at q2;cases q2
   |some y=>
    rw[hx]at hn58
    rw[hy]at hn59
    have hn58:n58=x:=hn58
    have hn59:n59=y:=hn59
    rw[hn58,hn59]
    rw[hn58,hn59]at q3
    rw[hn59]at q4
    exact ay ⟨q3,q4⟩)
 have HNO:Hid (¬(b58=true/\b59=true/\n58<n59/\n59<t)->oJ r.now t (ja os 58) (ja os 59)=(wrap64 (r.now+t/2),wrap64 (r.now+t/8*7),wrap64 (r.now+t))):=gu (fun q=>by
  unfold oJ
  rw[ax (gB HH9)]
  rw[hb58,hb59,hn58,hn59]at q
  cases hx:ja os 58 with
  |none=>rfl
  |some x=>
   cases hy:ja os 59 with
   |none=>rfl
   |some y=>
    rw[hx,hy]at q
    exact ax (fun e=>q ⟨rfl,rfl,e.1,e.2⟩))
 have HBN:=gu (And.intro hb59 hn59)
 clear hb58 hn58 hb59 hn59
 refine bT (fun K1 hK1=> ?_)
 go_cut []from 122 to 193 (fun wc=>wc=y.setCell (a_ G 29) (Vb Vg N1))
 case first=>
  go_wp2
  go_meet
  rfl
 case rest=>
  rename fV=>wz
  subst hcut
  refine hK1 _ _ ?_
  clear hK1 K1
  refine bT (fun K1 hK1=> ?_)
  go_cut []from 122 to 193 (fun wc=>wc=(y.setCell (a_ G 29) (Vb Vg N1)).setCell (a_ G 30) (Vb Vg N2))
  case first=>
   go_wp2
   go_meet
   rfl
  case rest=>
   rename fV=>wz
   subst hcut
   refine hK1 _ _ ?_
   clear hK1 K1
   refine bT (fun K1 hK1=> ?_)
   go_cut [13,14]from 122 to 193 (fun s13 TW wc=>s13=Vb Vg n58/\TW=.bool b58/\Hid (Gq w0 P G D (rD rep gF cl yo ne d0 d1 d2 d3 d4 d5 sa os.length cp) (.slice sa os.length cp) os (wc) (r.g4 fr ne M R0 (N1,N2,0))))
   case first=>
    go_wp2_with fail
    refine HN58.mono ?_
    rintro ee p1 ⟨rfl,hp1⟩
    have HP1:=gu (HQ4b.below hp1)
    clear hp1
    go_wp2
    go_meet
    exact⟨rfl,rfl,HP1⟩
   case rest=>
    rename fV=>p1
    obtain⟨hs13,hs14,HP1⟩:=hcut
    subst hs13
    subst hs14
    refine hK1 _ _ ?_
    clear hK1 K1 HN58 HQ4a HQ4b HQ4 yg f29 yE f30 c16 d16 x0 x1 x2 x3 x4 x5 x6 x7 x8 x9 x10 x11
    refine bT (fun K1 hK1=> ?_)
    go_cut [15,16]from 122 to 193 (fun s15 s16 wc=>s15=Vb Vg n59/\s16=.bool b59/\Hid (Gq w0 P G D (rD rep gF cl yo ne d0 d1 d2 d3 d4 d5 sa os.length cp) (.slice sa os.length cp) os (wc) (r.g4 fr ne M R0 (N1,N2,0))))
    case first=>
     obtain⟨x0,x1,x2,x3,x4,x5,x6,x7,x8,x9,x10,x11⟩:=jl HP1.row
     have HN59:=gu (HNUM 59 _ _ HP1)
     rw[<-HBN.1,<-HBN.2]at HN59
     go_wp2_with fail
     refine HN59.mono ?_
     rintro ee p2 ⟨rfl,hp2⟩
     have HP2:=gu (HP1.below hp2)
     clear hp2
     go_wp2
     go_meet
     exact⟨rfl,rfl,HP2⟩
    case rest=>
     rename fV=>p2
     obtain⟨hs15,hs16,HP2⟩:=hcut
     subst hs15
     subst hs16
     refine hK1 _ _ ?_
     clear hK1 K1 HP1
     by_cases hall:b58=true/\b59=true/\n58<n59/\n59<t
     ·have hT2:=HYES hall.1 hall.2.1 hall.2.2.1 hall.2.2.2
      refine MU rep gF cl yo ne d0 d1 d2 d3 d4 d5 os sa cp fr t M R0 _ D _ _ n58 n59 N1 N2 b58 b59 _ HP2 hall (hT.trans hT2) (fun a153 a154 a155 a156 a157 a158 a159 a160 a161 a162 a163 a164 a165 a166 a167 a168 a169 a170 a171 a172 a173 a174 a175 a176 a177 a178 a179 a180 a181 a182 a183 a184 a185 a186 a187 a188 a189 a190 a191 a192 a193 wc hc=> ?_)
      exact HK _ _ _ _ _ _ _ _ _ _ _ _ _ _ _ _ _ _ _ _ _ _ _ _ _ _ _ _ _ _ _ _ _ _ _ a153 a154 a155 a156 a157 a158 a159 a160 a161 a162 a163 a164 a165 a166 a167 a168 a169 a170 a171 a172 a173 a174 a175 a176 a177 a178 a179 a180 a181 a182 a183 a184 a185 a186 a187 a188 a189 a190 a191 a192 a193 wc hc
     ·have hT2:=HNO hall
      rw[<-HNN.1,<-HNN.2.1]at hT2
      refine Oz rep gF cl yo ne d0 d1 d2 d3 d4 d5 os sa cp fr t M R0 _ D _ _ n58 n59 N1 N2 b58 b59 _ HP2 hall (hT.trans hT2) (fun a153 a154 a155 a156 a157 a158 a159 a160 a161 a162 a163 a164 a165 a166 a167 a168 a169 a170 a171 a172 a173 a174 a175 a176 a177 a178 a179 a180 a181 a182 a183 a184 a185 a186 a187 a188 a189 a190 a191 a192 a193 wc hc=> ?_)
      exact HK _ _ _ _ _ _ _ _ _ _ _ _ _ _ _ _ _ _ _ _ _ _ _ _ _ _ _ _ _ _ _ _ _ _ _ a153 a154 a155 a156 a157 a158 a159 a160 a161 a162 a163 a164 a165 a166 a167 a168 a169 a170 a171 a172 a173 a174 a175 a176 a177 a178 a179 a180 a181 a182 a183 a184 a185 a186 a187 a188 a189 a190 a191 a192 a193 wc hc
theorem Rw(hf:r.Fit)(h2:r.gK=2)(ha:0<=r.iB/\r.iB<=4294967295)(rep:Bool)(gF cl yo ne d0 d1 d2 d3 d4 d5:Int)(os:Dh.gU)(sa:Option Addr)(cp:Nat)(hh:os.length<=268435456)(fr t:Int)(htb:0<=t/\t<=4294967295)(D:Nat)(y:fV)(hQ:Gq w0 P G D (rD rep gF cl yo ne d0 d1 d2 d3 d4 d5 sa os.length cp) (.slice sa os.length cp) os (y) (r.g3 fr ne ((ja os 1).getD 4294967295) (yJ.j6 (jO os 3)))):
  Code.wp Vh (Qp 11) (bodyPost Vh f109 (fun ee w'=>ee=.returned (.tuple #[])/\∃v',Rm w0 P w' G ((r.nG fr ne os t).yR 0 r.iB v'))) ⟨List.toArray ((p_ G)::z1::z2::z3::(p_ D)::z5::Vb Vg t::z7::z8::z9::z10::z11::z12::z13::z14::z15::z16::z17::z18::z19::z20::z21::z22::z23::z24::z25::z26::z27::z28::z29::z30::z31::z32::z33::z34::z35::z36::z37::z38::z39::z40::z41::z42::z43::z44::z45::z46::z47::z48::z49::z50::z51::z52::z53::z54::z55::z56::z57::z58::z59::z60::z61::z62::z63::z64::z65::z66::z67::z68::z69::z70::z71::z72::z73::z74::z75::z76::z77::z78::z79::z80::z81::z82::z83::z84::z85::z86::z87::z88::z89::z90::z91::z92::z93::z94::z95::z96::z97::z98::z99::z100::z101::z102::z103::z104::z105::z106::z107::z108::z109::z110::z111::z112::z113::z114::z115::z116::z117::z118::z119::z120::z121::z122::z123::z124::z125::z126::z127::z128::z129::z130::z131::z132::z133::z134::z135::z136::z137::z138::z139::z140::z141::z142::z143::z144::z145::z146::z147::z148::z149::z150::z151::z152::z153::z154::z155::z156::z157::z158::z159::z160::z161::z162::z163::z164::z165::z166::z167::z168::z169::z170::z171::z172::z173::z174::z175::z176::z177::z178::z179::z180::z181::z182::z183::z184::z185::z186::z187::z188::z189::z190::z191::z192::z193::z194::z195::z196::z197::z198::z199::z200::z201::z202::z203::z204::z205::z206::z207::z208::z209::z210::z211::z212::z213::z214::z215::z216::z217::z218:: []),[]⟩ y:=by
 have HQ:=gu hQ
 have HF:=gu hf
 have HA:=gu ha
 have HH2:=gu h2
 have HTB:=gu htb
 have HHL:=gu hh
 have HNUM:Hid (∀(cd:UInt8) (u:fV) (r':Rf),Gq w0 P G D (rD rep gF cl yo ne d0 d1 d2 d3 d4 d5 sa os.length cp) (.slice sa os.length cp) os u r'->f_ Vh 108 #[.agg (rD rep gF cl yo ne d0 d1 d2 d3 d4 d5 sa os.length cp),Vb Vd cd.toNat] u fun e w'=>e=.returned (.tuple #[Vb Vg ((ja os cd).getD 0),.bool (ja os cd).isSome])/\gm u.heap.size u w'):=gu (fun cd u r' hu=>lH cd rep gF cl yo ne d0 d1 d2 d3 d4 d5 _ os hu.hs hh)
 have hDG: ¬D=G:=hQ.nD
 have hGD: ¬G=D:=fun e=>hQ.nD e.symm
 clear hQ hf ha h2 htb hh
 conv=>arg 2;whnf
 obtain⟨M,hM⟩:∃M,M=(ja os 1).getD 4294967295:=⟨_,rfl⟩
 obtain⟨R0,hR⟩:∃R0,R0=yJ.j6 (jO os 3):=⟨_,rfl⟩
 rw[<-hM,<-hR]at HQ
 have HMM:=gu hM
 have HRR:=gu hR
 clear hM hR
 refine bT (fun K hK=> ?_)
 go_cut [] (fun wc=>Hid (Gq w0 P G D (rD rep gF cl yo ne d0 d1 d2 d3 d4 d5 sa os.length cp) (.slice sa os.length cp) os (wc) (r.g4 fr ne M R0 (0,r.t2,r.Nj))))
 case first=>
  have yg:=HQ.rm.yg
  have f29:=HQ.rm.free 29
  have HX:Hid (Gq w0 P G D (rD rep gF cl yo ne d0 d1 d2 d3 d4 d5 sa os.length cp) (.slice sa os.length cp) os (y.setCell (a_ G 29) (Vb Vg 0)) (r.g4 fr ne M R0 (0,r.t2,r.Nj))):=gu (HQ.set 29 _ rfl rfl rfl rfl rfl)
  go_wp2
  go_meet
  exact HX
 case rest=>
  rename fV=>y2
  have HQ2:=hcut
  clear hcut HQ
  refine hK _ _ ?_
  clear hK K
  refine bT (fun K hK=> ?_)
  go_cut [] (fun wc=>Hid (Gq w0 P G D (rD rep gF cl yo ne d0 d1 d2 d3 d4 d5 sa os.length cp) (.slice sa os.length cp) os (wc) (r.g4 fr ne M R0 (0,0,r.Nj))))
  case first=>
   have yE:=HQ2.rm.yE
   have f30:=HQ2.rm.free 30
   have HX:Hid (Gq w0 P G D (rD rep gF cl yo ne d0 d1 d2 d3 d4 d5 sa os.length cp) (.slice sa os.length cp) os (y2.setCell (a_ G 30) (Vb Vg 0)) (r.g4 fr ne M R0 (0,0,r.Nj))):=gu (HQ2.set 30 _ rfl rfl rfl rfl rfl)
   go_wp2
   go_meet
   exact HX
  case rest=>
   rename fV=>y3
   have HQ3:=hcut
   clear hcut HQ2
   refine hK _ _ ?_
   clear hK K
   refine bT (fun K hK=> ?_)
   go_cut [] (fun wc=>Hid (Gq w0 P G D (rD rep gF cl yo ne d0 d1 d2 d3 d4 d5 sa os.length cp) (.slice sa os.length cp) os (wc) (r.g4 fr ne M R0 (0,0,0))))
   case first=>
    have c31:=HQ3.rm.c31
    have f31:=HQ3.rm.free 31
    have HX:Hid (Gq w0 P G D (rD rep gF cl yo ne d0 d1 d2 d3 d4 d5 sa os.length cp) (.slice sa os.length cp) os (y3.setCell (a_ G 31) (Vb Vg 0)) (r.g4 fr ne M R0 (0,0,0))):=gu (HQ3.set 31 _ rfl rfl rfl rfl rfl)
    go_wp2
    go_meet
    exact HX
   case rest=>
    rename fV=>y4
    have HQ4:=hcut
    clear hcut HQ3
    refine hK _ _ ?_
    clear hK K
    refine bT (fun K hK=> ?_)
    go_cut [13,14,15,16] (fun _ _ _ _ wc=>Hid (Gq w0 P G D (rD rep gF cl yo ne d0 d1 d2 d3 d4 d5 sa os.length cp) (.slice sa os.length cp) os (wc) (r.g4 fr ne M R0 (oJ r.now t (ja os 58) (ja os 59)))))
    case first=>
     by_cases h9:t=4294967295
     ·have hb9:(t !=4294967295)=false:=by simpa using h9
      have HE:Hid (oJ r.now t (ja os 58) (ja os 59)=(0,0,0)):=gu (by unfold oJ;rw[ay h9])
      clear h9
      go_wp2
      go_meet
      exact gu (by rw[gB HE];exact HQ4)
     ·have hb9:(t !=4294967295)=true:=by simpa using h9
      have HH9:=gu h9
      clear h9
      go_upto_if 121 with fail
      refine wp_cond (t:=true) (by first|rfl|(show Value.bool (t !=4294967295)=_;rw[hb9])) ?_
      rw[ay rfl]
      refine Nu rep gF cl yo ne d0 d1 d2 d3 d4 d5 os sa cp fr t M R0 _ D _ _ HHL HTB HH9 rfl _ HQ4 (fun q13 q14 q15 q16 q122 q123 q124 q125 q126 q127 q128 q129 q130 q131 q132 q133 q134 q135 q136 q137 q138 q139 q140 q141 q142 q143 q144 q145 q146 q147 q148 q149 q150 q151 q152 q153 q154 q155 q156 q157 q158 q159 q160 q161 q162 q163 q164 q165 q166 q167 q168 q169 q170 q171 q172 q173 q174 q175 q176 q177 q178 q179 q180 q181 q182 q183 q184 q185 q186 q187 q188 q189 q190 q191 q192 q193 wc hc=> ?_)
      have HC:=gu hc
      clear hc
      go_wp2
      go_meet
      exact HC
    case rest=>
     rename fV=>y5
     have HQ5:=hcut
     refine hK _ _ ?_
     clear hcut HQ4 hK K
     rw[gB HMM,gB HRR]at HQ5
     exact Ry HF HH2 HA rep gF cl yo ne d0 d1 d2 d3 d4 d5 os sa cp HHL fr t HTB D _ HQ5
theorem SX(hf:r.Fit)(h2:r.gK=2)(ha:0<=r.iB/\r.iB<=4294967295)(rep:Bool)(gF cl yo ne d0 d1 d2 d3 d4 d5:Int)(os:Dh.gU)(sa:Option Addr)(cp:Nat)(hh:os.length<=268435456)(fr t:Int)(htb:0<=t/\t<=4294967295)(D:Nat)(y:fV)(hQ:Gq w0 P G D (rD rep gF cl yo ne d0 d1 d2 d3 d4 d5 sa os.length cp) (.slice sa os.length cp) os (y) (r.g1 fr ne)):
  Code.wp Vh (Qp 7) (bodyPost Vh f109 (fun ee w'=>ee=.returned (.tuple #[])/\∃v',Rm w0 P w' G ((r.nG fr ne os t).yR 0 r.iB v'))) ⟨List.toArray ((p_ G)::z1::z2::z3::(p_ D)::z5::Vb Vg t::z7::z8::z9::z10::z11::z12::z13::z14::z15::z16::z17::z18::z19::z20::z21::z22::z23::z24::z25::z26::z27::z28::z29::z30::z31::z32::z33::z34::z35::z36::z37::z38::z39::z40::z41::z42::z43::z44::z45::z46::z47::z48::z49::z50::z51::z52::z53::z54::z55::z56::z57::z58::z59::z60::z61::z62::z63::z64::z65::z66::z67::z68::z69::z70::z71::z72::z73::z74::z75::z76::z77::z78::z79::z80::z81::z82::z83::z84::z85::z86::z87::z88::z89::z90::z91::z92::z93::z94::z95::z96::z97::z98::z99::z100::z101::z102::z103::z104::z105::z106::z107::z108::z109::z110::z111::z112::z113::z114::z115::z116::z117::z118::z119::z120::z121::z122::z123::z124::z125::z126::z127::z128::z129::z130::z131::z132::z133::z134::z135::z136::z137::z138::z139::z140::z141::z142::z143::z144::z145::z146::z147::z148::z149::z150::z151::z152::z153::z154::z155::z156::z157::z158::z159::z160::z161::z162::z163::z164::z165::z166::z167::z168::z169::z170::z171::z172::z173::z174::z175::z176::z177::z178::z179::z180::z181::z182::z183::z184::z185::z186::z187::z188::z189::z190::z191::z192::z193::z194::z195::z196::z197::z198::z199::z200::z201::z202::z203::z204::z205::z206::z207::z208::z209::z210::z211::z212::z213::z214::z215::z216::z217::z218:: []),[]⟩ y:=by
 have HQ:=gu hQ
 have HF:=gu hf
 have HA:=gu ha
 have HH2:=gu h2
 have HTB:=gu htb
 have HHL:=gu hh
 have HNUM:Hid (∀(cd:UInt8) (u:fV) (r':Rf),Gq w0 P G D (rD rep gF cl yo ne d0 d1 d2 d3 d4 d5 sa os.length cp) (.slice sa os.length cp) os u r'->f_ Vh 108 #[.agg (rD rep gF cl yo ne d0 d1 d2 d3 d4 d5 sa os.length cp),Vb Vd cd.toNat] u fun e w'=>e=.returned (.tuple #[Vb Vg ((ja os cd).getD 0),.bool (ja os cd).isSome])/\gm u.heap.size u w'):=gu (fun cd u r' hu=>lH cd rep gF cl yo ne d0 d1 d2 d3 d4 d5 _ os hu.hs hh)
 have hDG: ¬D=G:=hQ.nD
 have hGD: ¬G=D:=fun e=>hQ.nD e.symm
 clear hQ hf ha h2 htb hh
 conv=>arg 2;whnf
 have HOPT:Hid (∀(u:fV) (r':Rf),Gq w0 P G D (rD rep gF cl yo ne d0 d1 d2 d3 d4 d5 sa os.length cp) (.slice sa os.length cp) os u r'->f_ Vh 107 #[.slice sa os.length cp,Vb Vd 3] u fun e w'=>e=.returned (.tuple #[.string ⟨(jO os 3).toArray⟩,.bool (Dh.look os 3).isSome])/\gm u.heap.size u w'):=gu (fun u r' hu=>wM 3 hu.hs HHL)
 refine bT (fun K hK=> ?_)
 go_cut [] (fun wc=>Hid (Gq w0 P G D (rD rep gF cl yo ne d0 d1 d2 d3 d4 d5 sa os.length cp) (.slice sa os.length cp) os (wc) (r.g2 fr ne 4294967295)))
 case first=>
  have nk:=HQ.rm.nk
  have f25:=HQ.rm.free 25
  have HX:Hid (Gq w0 P G D (rD rep gF cl yo ne d0 d1 d2 d3 d4 d5 sa os.length cp) (.slice sa os.length cp) os (y.setCell (a_ G 25) (Vb Vf 4294967295)) (r.g2 fr ne 4294967295)):=gu (HQ.set 25 _ rfl rfl rfl rfl rfl)
  go_wp2
  go_meet
  exact HX
 case rest=>
  rename fV=>y2
  have HQ2:=hcut
  clear hcut HQ
  refine hK _ _ ?_
  clear hK K
  refine bT (fun K hK=> ?_)
  go_cut [9,10] (fun _ _ wc=>Hid (Gq w0 P G D (rD rep gF cl yo ne d0 d1 d2 d3 d4 d5 sa os.length cp) (.slice sa os.length cp) os (wc) (r.g2 fr ne ((ja os 1).getD 4294967295))))
  case first=>
   obtain⟨x0,x1,x2,x3,x4,x5,x6,x7,x8,x9,x10,x11⟩:=jl HQ2.row
   have HN1:=gu (HNUM 1 _ _ HQ2)
   cases hq1:ja os 1 with
   |none=>
    rw[hq1]at HN1
    have HH:=gu hq1
    clear hq1
    go_wp2_with fail
    refine HN1.mono ?_
    rintro ee u2 ⟨rfl,hb2⟩
    have HQ4:=gu (HQ2.below hb2)
    clear hb2 HN1 x0 x1 x2 x3 x4 x5 x6 x7 x8 x9 x10 x11
    go_wp2
    go_meet
    exact gu (by rw[gB HH];exact HQ4)
   |some x=>
    rw[hq1]at HN1
    have hxb:=Jt hq1
    have hw:IntKind.u32.wrap x=x:=by rw[VU];omega
    have HH:=gu hq1
    clear hq1 hxb
    go_wp2_with fail
    refine HN1.mono ?_
    rintro ee u2 ⟨rfl,hb2⟩
    have HQ4:=gu (HQ2.below hb2)
    clear hb2 HN1 x0 x1 x2 x3 x4 x5 x6 x7 x8 x9 x10 x11
    have HQx:Hid (Gq w0 P G D (rD rep gF cl yo ne d0 d1 d2 d3 d4 d5 sa os.length cp) (.slice sa os.length cp) os (u2.setCell (a_ G 25) (Vb Vf x)) (r.g2 fr ne x)):=gu (HQ4.set 25 _ rfl rfl rfl rfl rfl)
    have nk:=HQ4.rm.nk
    have f25:=HQ4.rm.free 25
    go_wp2
    go_meet
    exact gu (by rw[gB HH];exact HQx)
  case rest=>
   rename fV=>y3
   have HQ3:=hcut
   clear hcut HQ2
   refine hK _ _ ?_
   clear hK K
   obtain⟨M,hM⟩:∃M,M=(ja os 1).getD 4294967295:=⟨_,rfl⟩
   rw[<-hM]at HQ3
   have HMM:=gu hM
   clear hM
   refine bT (fun K hK=> ?_)
   go_cut [] (fun wc=>Hid (Gq w0 P G D (rD rep gF cl yo ne d0 d1 d2 d3 d4 d5 sa os.length cp) (.slice sa os.length cp) os (wc) (r.g3 fr ne M 0)))
   case first=>
    have sw:=HQ3.rm.sw
    have f26:=HQ3.rm.free 26
    have HX:Hid (Gq w0 P G D (rD rep gF cl yo ne d0 d1 d2 d3 d4 d5 sa os.length cp) (.slice sa os.length cp) os (y3.setCell (a_ G 26) (Vb Vf 0)) (r.g3 fr ne M 0)):=gu (HQ3.set 26 _ rfl rfl rfl rfl rfl)
    go_wp2
    go_meet
    exact HX
   case rest=>
    rename fV=>y4
    have HQ5:=hcut
    clear hcut HQ3
    refine hK _ _ ?_
    clear hK K
    refine bT (fun K hK=> ?_)
    go_cut [11,12] (fun _ _ wc=>Hid (Gq w0 P G D (rD rep gF cl yo ne d0 d1 d2 d3 d4 d5 sa os.length cp) (.slice sa os.length cp) os (wc) (r.g3 fr ne M (yJ.j6 (jO os 3)))))
    case first=>
     have HO1:=gu (HOPT _ _ HQ5)
     obtain⟨x0,x1,x2,x3,x4,x5,x6,x7,x8,x9,x10,x11⟩:=jl HQ5.row
     obtain⟨st,hst⟩:∃st:ByteArray,st=⟨(jO os 3).toArray⟩:=⟨_,rfl⟩
     have hsz:st.size=(jO os 3).length:=by rw[hst];exact gL _
     obtain⟨b3,hb3⟩:∃b3,b3=(Dh.look os 3).isSome:=⟨_,rfl⟩
     have HB3:Hid (b3=false->(jO os 3).length=0):=gu (fun q=>by
      rw[q]at hb3
      unfold jO
      cases hl:Dh.look os 3 with
      |none=>rfl
      |some x=>rw[hl]at hb3;cases hb3)
     rw[<-hst,<-hb3]at HO1
     clear hb3
     by_cases h4:4<=(jO os 3).length
     ·have hbt:b3=true:=by
       cases b3 with
       |true=>rfl
       |false=>have:=HB3 rfl;omega
      subst hbt
      obtain⟨a,b,c,d,q2,e⟩:=J6 h4
      have e1:st.extract 0 4=⟨#[a,b,c,d]⟩:=by rw[hst,e];exact Na a b c d q2
      obtain⟨R0,hR0⟩:∃R0,R0=yJ.j6 (jO os 3):=⟨_,rfl⟩
      have e2:R0=16777216*(a.toNat:Int)+65536*(b.toNat:Int)+256*(c.toNat:Int)+(d.toNat:Int):=by rw[hR0,e];rfl
      have HIP:Hid (∀u:fV,f_ Vh 103 #[.string (st.extract 0 4)] u fun ee w'=>ee=.returned (Vb Vf R0)/\w'=u):=gu (fun u=>by rw[e1,e2];exact Rr.kX a b c d u)
      have HRR:=gu hR0
      have hs4:(4:Int)<=(st.size:Int):=by omega
      have hs4d:decide ((4:Int)<=(st.size:Int))=true:=by simpa using hs4
      clear e e1 e2 hst hR0 h4 hsz
      go_wp2_with fail
      refine HO1.mono ?_
      rintro ee u3 ⟨rfl,hb4⟩
      have HQ6:=gu (HQ5.below hb4)
      clear hb4 HO1 x0 x1 x2 x3 x4 x5 x6 x7 x8 x9 x10 x11
      have HQx:Hid (Gq w0 P G D (rD rep gF cl yo ne d0 d1 d2 d3 d4 d5 sa os.length cp) (.slice sa os.length cp) os (u3.setCell (a_ G 26) (Vb Vf R0)) (r.g3 fr ne M R0)):=gu (HQ6.set 26 _ rfl rfl rfl rfl rfl)
      have sw:=HQ6.rm.sw
      have f26:=HQ6.rm.free 26
      go_wp2_with fail
      refine(HIP _).mono ?_
      rintro ee u5 ⟨rfl,rfl⟩
      go_wp2
      go_meet
      exact gu (by rw[<-gB HRR];exact HQx)
     ·have HR0:Hid (yJ.j6 (jO os 3)=0):=gu (CQ (by omega))
      have hs4: ¬(4:Int)<=(st.size:Int):=by omega
      have hs4d:decide ((4:Int)<=(st.size:Int))=false:=by simpa using hs4
      clear hst h4 hsz
      go_wp2_with fail
      refine HO1.mono ?_
      rintro ee u3 ⟨rfl,hb4⟩
      have HQ6:=gu (HQ5.below hb4)
      clear hb4 HO1 HB3 x0 x1 x2 x3 x4 x5 x6 x7 x8 x9 x10 x11
      cases b3 with
      |false=>
       go_wp2
       go_meet
       exact gu (by rw[gB HR0];exact HQ6)
      |true=>
       go_wp2
       go_meet
       exact gu (by rw[gB HR0];exact HQ6)
    case rest=>
     rename fV=>y5
     have HQ7:=hcut
     clear hcut HQ5
     refine hK _ _ ?_
     clear hK K
     rw[gB HMM]at HQ7
     exact Rw HF HH2 HA rep gF cl yo ne d0 d1 d2 d3 d4 d5 os sa cp HHL fr t HTB D _ HQ7
theorem SC(hf:r.Fit)(h2:r.gK=2)(ha:0<=r.iB/\r.iB<=4294967295)(rep:Bool)(gF cl yo ne d0 d1 d2 d3 d4 d5:Int)(os:Dh.gU)(sa:Option Addr)(cp:Nat)(hh:os.length<=268435456)(fr t:Int)(htb:0<=t/\t<=4294967295)(D:Nat)(y:fV)(hQ:Gq w0 P G D (rD rep gF cl yo ne d0 d1 d2 d3 d4 d5 sa os.length cp) (.slice sa os.length cp) os (y) (r)):
  Code.wp Vh (Qp 4) (bodyPost Vh f109 (fun ee w'=>ee=.returned (.tuple #[])/\∃v',Rm w0 P w' G ((r.nG fr ne os t).yR 0 r.iB v'))) ⟨List.toArray ((p_ G)::z1::Vb Vf fr::z3::(p_ D)::z5::Vb Vg t::z7::z8::z9::z10::z11::z12::z13::z14::z15::z16::z17::z18::z19::z20::z21::z22::z23::z24::z25::z26::z27::z28::z29::z30::z31::z32::z33::z34::z35::z36::z37::z38::z39::z40::z41::z42::z43::z44::z45::z46::z47::z48::z49::z50::z51::z52::z53::z54::z55::z56::z57::z58::z59::z60::z61::z62::z63::z64::z65::z66::z67::z68::z69::z70::z71::z72::z73::z74::z75::z76::z77::z78::z79::z80::z81::z82::z83::z84::z85::z86::z87::z88::z89::z90::z91::z92::z93::z94::z95::z96::z97::z98::z99::z100::z101::z102::z103::z104::z105::z106::z107::z108::z109::z110::z111::z112::z113::z114::z115::z116::z117::z118::z119::z120::z121::z122::z123::z124::z125::z126::z127::z128::z129::z130::z131::z132::z133::z134::z135::z136::z137::z138::z139::z140::z141::z142::z143::z144::z145::z146::z147::z148::z149::z150::z151::z152::z153::z154::z155::z156::z157::z158::z159::z160::z161::z162::z163::z164::z165::z166::z167::z168::z169::z170::z171::z172::z173::z174::z175::z176::z177::z178::z179::z180::z181::z182::z183::z184::z185::z186::z187::z188::z189::z190::z191::z192::z193::z194::z195::z196::z197::z198::z199::z200::z201::z202::z203::z204::z205::z206::z207::z208::z209::z210::z211::z212::z213::z214::z215::z216::z217::z218:: []),[]⟩ y:=by
 have HQ:=gu hQ
 have HF:=gu hf
 have HA:=gu ha
 have HH2:=gu h2
 have HTB:=gu htb
 have HHL:=gu hh
 have HNUM:Hid (∀(cd:UInt8) (u:fV) (r':Rf),Gq w0 P G D (rD rep gF cl yo ne d0 d1 d2 d3 d4 d5 sa os.length cp) (.slice sa os.length cp) os u r'->f_ Vh 108 #[.agg (rD rep gF cl yo ne d0 d1 d2 d3 d4 d5 sa os.length cp),Vb Vd cd.toNat] u fun e w'=>e=.returned (.tuple #[Vb Vg ((ja os cd).getD 0),.bool (ja os cd).isSome])/\gm u.heap.size u w'):=gu (fun cd u r' hu=>lH cd rep gF cl yo ne d0 d1 d2 d3 d4 d5 _ os hu.hs hh)
 have hDG: ¬D=G:=hQ.nD
 have hGD: ¬G=D:=fun e=>hQ.nD e.symm
 clear hQ hf ha h2 htb hh
 conv=>arg 2;whnf
 refine bT (fun K hK=> ?_)
 go_cut [] (fun wc=>Hid (Gq w0 P G D (rD rep gF cl yo ne d0 d1 d2 d3 d4 d5 sa os.length cp) (.slice sa os.length cp) os (wc) ({r with iO:=fr})))
 case first=>
  have uF:=HQ.rm.uF
  have f27:=HQ.rm.free 27
  have HX:Hid (Gq w0 P G D (rD rep gF cl yo ne d0 d1 d2 d3 d4 d5 sa os.length cp) (.slice sa os.length cp) os (y.setCell (a_ G 27) (Vb Vf fr)) ({r with iO:=fr})):=gu (HQ.set 27 _ rfl rfl rfl rfl rfl)
  go_wp2
  go_meet
  exact HX
 case rest=>
  rename fV=>y5
  have HQ5:=hcut
  clear hcut HQ
  refine hK _ _ ?_
  clear hK K
  refine bT (fun K hK=> ?_)
  go_cut [] (fun wc=>Hid (Gq w0 P G D (rD rep gF cl yo ne d0 d1 d2 d3 d4 d5 sa os.length cp) (.slice sa os.length cp) os (wc) ({r with iO:=fr,src:=fr})))
  case first=>
   have c28:=HQ5.rm.c28
   have f28:=HQ5.rm.free 28
   have HX:Hid (Gq w0 P G D (rD rep gF cl yo ne d0 d1 d2 d3 d4 d5 sa os.length cp) (.slice sa os.length cp) os (y5.setCell (a_ G 28) (Vb Vf fr)) ({r with iO:=fr,src:=fr})):=gu (HQ5.set 28 _ rfl rfl rfl rfl rfl)
   go_wp2
   go_meet
   exact HX
  case rest=>
   rename fV=>y6
   have HQ6:=hcut
   clear hcut HQ5
   refine hK _ _ ?_
   clear hK K
   refine bT (fun K hK=> ?_)
   go_cut [] (fun wc=>Hid (Gq w0 P G D (rD rep gF cl yo ne d0 d1 d2 d3 d4 d5 sa os.length cp) (.slice sa os.length cp) os (wc) (r.g1 fr ne)))
   case first=>
    obtain⟨x0,x1,x2,x3,x4,x5,x6,x7,x8,x9,x10,x11⟩:=jl HQ6.row
    by_cases hne:ne=0
    ·have hnb:(ne !=0)=false:=by simpa using hne
     have HE:Hid ({r with iO:=fr,src:=fr}=r.g1 fr ne):=gu (by unfold Rf.g1;rw[ay hne])
     go_wp2
     go_meet
     exact gu (by rw[<-gB HE];exact HQ6)
    ·have hnb:(ne !=0)=true:=by simpa using hne
     have HE:Hid ({r with iO:=fr,src:=ne}=r.g1 fr ne):=gu (by unfold Rf.g1;rw[ax hne])
     have HQx:Hid (Gq w0 P G D (rD rep gF cl yo ne d0 d1 d2 d3 d4 d5 sa os.length cp) (.slice sa os.length cp) os (y6.setCell (a_ G 28) (Vb Vf ne)) (r.g1 fr ne)):=gu (by rw[<-gB HE];exact HQ6.set 28 _ rfl rfl rfl rfl rfl)
     have c28:=HQ6.rm.c28
     have f28:=HQ6.rm.free 28
     go_wp2
     go_meet
     exact HQx
   case rest=>
    rename fV=>y7
    have HQ7:=hcut
    clear hcut HQ6
    refine hK _ _ ?_
    clear hK K
    exact SX HF HH2 HA rep gF cl yo ne d0 d1 d2 d3 d4 d5 os sa cp HHL fr t HTB D _ HQ7
theorem Tj(hf:r.Fit)(h2:r.gK=2)(ha:0<=r.iB/\r.iB<=4294967295)(rep:Bool)(gF cl yo ne d0 d1 d2 d3 d4 d5:Int)(os:Dh.gU)(sa:Option Addr)(cp:Nat)(hh:os.length<=268435456)(fr t:Int)(htb:0<=t/\t<=4294967295)(D:Nat)(e0:(t==0)=false)(eY:(yo !=r.iB)=false)(y:fV)(hQ:Gq w0 P G D (rD rep gF cl yo ne d0 d1 d2 d3 d4 d5 sa os.length cp) (.slice sa os.length cp) os (y) (r)):
  Code.wp Vh (Qp 3) (bodyPost Vh f109 (fun ee w'=>ee=.returned (.tuple #[])/\∃v',Rm w0 P w' G ((r.nG fr ne os t).yR 0 r.iB v'))) ⟨List.toArray ((p_ G)::z1::Vb Vf fr::z3::(p_ D)::z5::Vb Vg t::.bool true::.bool true::z9::z10::z11::z12::z13::z14::z15::z16::z17::z18::z19::z20::z21::z22::z23::z24::z25::z26::z27::z28::z29::z30::z31::z32::z33::z34::z35::z36::z37::z38::z39::z40::z41::z42::z43::z44::z45::z46::z47::z48::z49::z50::z51::z52::z53::z54::z55::z56::z57::z58::z59::z60::z61::z62::z63::z64::z65::z66::z67::z68::z69::z70::z71::z72::z73::z74::z75::z76::z77::z78::z79::z80::z81::z82::z83::z84::z85::z86::z87::z88::z89::z90::z91::z92::z93::z94::z95::z96::z97::z98::z99::z100::z101::z102::z103::z104::z105::z106::z107::z108::z109::z110::z111::z112::z113::z114::z115::z116::z117::z118::z119::z120::z121::z122::z123::z124::z125::z126::z127::z128::z129::z130::z131::z132::z133::z134::z135::z136::z137::z138::z139::z140::z141::z142::z143::z144::z145::z146::z147::z148::z149::z150::z151::z152::z153::z154::z155::z156::z157::z158::z159::z160::z161::z162::z163::z164::z165::z166::z167::z168::z169::z170::z171::z172::z173::z174::z175::z176::z177::z178::z179::z180::z181::z182::z183::z184::z185::z186::z187::z188::z189::z190::z191::z192::z193::z194::z195::z196::z197::z198::z199::z200::z201::z202::z203::z204::z205::z206::z207::z208::z209::z210::z211::z212::z213::z214::z215::z216::z217::z218:: []),[]⟩ y:=by
 have HQ:=gu hQ
 have HF:=gu hf
 have HA:=gu ha
 have HH2:=gu h2
 have HTB:=gu htb
 have HHL:=gu hh
 have HNUM:Hid (∀(cd:UInt8) (u:fV) (r':Rf),Gq w0 P G D (rD rep gF cl yo ne d0 d1 d2 d3 d4 d5 sa os.length cp) (.slice sa os.length cp) os u r'->f_ Vh 108 #[.agg (rD rep gF cl yo ne d0 d1 d2 d3 d4 d5 sa os.length cp),Vb Vd cd.toNat] u fun e w'=>e=.returned (.tuple #[Vb Vg ((ja os cd).getD 0),.bool (ja os cd).isSome])/\gm u.heap.size u w'):=gu (fun cd u r' hu=>lH cd rep gF cl yo ne d0 d1 d2 d3 d4 d5 _ os hu.hs hh)
 have hDG: ¬D=G:=hQ.nD
 have hGD: ¬G=D:=fun e=>hQ.nD e.symm
 clear hQ hf ha h2 htb hh
 conv=>arg 2;whnf
 refine bT (fun K hK=> ?_)
 go_cut [] (fun wc=>Hid (Gq w0 P G D (rD rep gF cl yo ne d0 d1 d2 d3 d4 d5 sa os.length cp) (.slice sa os.length cp) os (wc) (r)))
 case first=>
  have c24:=HQ.rm.c24
  obtain⟨x0,x1,x2,x3,x4,x5,x6,x7,x8,x9,x10,x11⟩:=jl HQ.row
  go_wp2
  go_quiet (fail)
  obtain⟨v1,hv1⟩:∃v1,v1=y.drewN nq:=⟨_,rfl⟩
  have HX:Hid (Gq w0 P G D (rD rep gF cl yo ne d0 d1 d2 d3 d4 d5 sa os.length cp) (.slice sa os.length cp) os (v1) (r)):=gu (by rw[hv1];exact HQ.like ⟨rfl,rfl,rfl,rfl⟩)
  rw[<-hv1]
  clear hv1
  go_wp2
  go_meet
  exact HX
 case rest=>
  rename fV=>y4
  have HQ4:=hcut
  clear hcut HQ
  refine hK _ _ ?_
  clear hK K
  exact SC HF HH2 HA rep gF cl yo ne d0 d1 d2 d3 d4 d5 os sa cp HHL fr t HTB D _ HQ4
theorem FP(h:Rm w0 P w G r)(hf:r.Fit)(h2:r.gK=2)(ha:0<=r.iB/\r.iB<=4294967295)(rep:Bool)(gF cl yo ne d0 d1 d2 d3 d4 d5:Int)(v:Value)(os:Dh.gU)(hH:Hx G r w v os)(hh:os.length<=268435456)(fr:Int)(t:Int)(ht:ja os 51=some t)(ht0:t≠0)(hy:yo=r.iB):
  f_ Vh 109 #[p_ G,.agg #[.bool rep,Vb Vf gF,Vb Vf cl,Vb Vf yo,Vb Vf ne,Vb Vd d0,Vb Vd d1,Vb Vd d2,Vb Vd d3,Vb Vd d4,Vb Vd d5,v],Vb Vf fr] w fun ee w'=>ee=.returned (.tuple #[])/\∃v',Rm w0 P w' G ((r.nG fr ne os t).yR 0 r.iB v'):=by
 obtain⟨hHs,hN⟩:=hH
 obtain⟨sa,cp,rfl,hA⟩:=hHs
 have hHs:Hs w (.slice sa os.length cp) os:=⟨sa,cp,rfl,hA⟩
 have hb0:=(R9 w.heap.size w).alloc (ai _) (.cells (rD rep gF cl yo ne d0 d1 d2 d3 d4 d5 sa os.length cp) 127)
 have HQ0:Hid (Gq w0 P G w.heap.size (rD rep gF cl yo ne d0 d1 d2 d3 d4 d5 sa os.length cp) (.slice sa os.length cp) os (w.alloc (.cells (rD rep gF cl yo ne d0 d1 d2 d3 d4 d5 sa os.length cp) 127)) r):=gu ⟨h.alloc _,G8 w _,hHs.below hb0,by have:=h.lt;omega,fun ad n c e hk=>hN ad n c e (au hk)⟩
 have HNUM:Hid (∀(cd:UInt8) (u:fV) (r':Rf),Gq w0 P G w.heap.size (rD rep gF cl yo ne d0 d1 d2 d3 d4 d5 sa os.length cp) (.slice sa os.length cp) os u r'->f_ Vh 108 #[.agg (rD rep gF cl yo ne d0 d1 d2 d3 d4 d5 sa os.length cp),Vb Vd cd.toNat] u fun e w'=>e=.returned (.tuple #[Vb Vg ((ja os cd).getD 0),.bool (ja os cd).isSome])/\gm u.heap.size u w'):=gu (fun cd u r' hu=>lH cd rep gF cl yo ne d0 d1 d2 d3 d4 d5 _ os hu.hs hh)
 have HTB:=gu (Jt ht)
 have HT:=gu ht
 have HF:=gu hf
 have HA:=gu ha
 have HHL:=gu hh
 have hlt:=h.lt
 have e2:(r.gK==2)=true:=by rw[h2];rfl
 have e0:(t==0)=false:=by simpa using ht0
 have eY:(yo !=r.iB)=false:=by simpa using hy
 have HH2:=gu h2
 clear h hf ha hA hHs hN hb0 ht ht0 hy h2 hh
 obtain⟨D,hD⟩:∃D,D=w.heap.size:=⟨_,rfl⟩
 have hDG: ¬D=G:=by omega
 have hGD: ¬G=D:=by omega
 have HDD:=gu hD
 obtain⟨y0,hy0⟩:∃y0,y0=w.alloc (.cells (rD rep gF cl yo ne d0 d1 d2 d3 d4 d5 sa os.length cp) 127):=⟨_,rfl⟩
 rw[<-hy0,<-hD]at HQ0
 rw[<-hD]at HNUM
 have HY0:=gu hy0
 clear hy0 hlt
 go_enter func109,ntmps109
 refine bT (fun K hK=> ?_)
 go_cut [4] (fun s4 wc=>s4=(p_ D)/\Hid (Gq w0 P G D (rD rep gF cl yo ne d0 d1 d2 d3 d4 d5 sa os.length cp) (.slice sa os.length cp) os (wc) (r)))
 case first=>
  go_wp2
  rw[<-gB HY0,<-hD]
  go_meet
  exact⟨rfl,HQ0⟩
 case rest=>
  rename fV=>y1
  obtain⟨hs4,HQ1⟩:=hcut
  subst hs4
  clear HQ0 HY0 hD HDD
  refine hK _ _ ?_
  clear hK K
  refine bT (fun K hK=> ?_)
  go_cut [6,7] (fun s6 s7 wc=>s6=Vb Vg t/\s7=.bool true/\Hid (Gq w0 P G D (rD rep gF cl yo ne d0 d1 d2 d3 d4 d5 sa os.length cp) (.slice sa os.length cp) os (wc) (r)))
  case first=>
   obtain⟨x0,x1,x2,x3,x4,x5,x6,x7,x8,x9,x10,x11⟩:=jl HQ1.row
   have HN0:=gu (HNUM 51 _ _ HQ1)
   rw[gB HT]at HN0
   go_wp2_with fail
   refine HN0.mono ?_
   rintro ee u1 ⟨rfl,hb1⟩
   have HX:=gu (HQ1.below hb1)
   clear hb1 HN0 x0 x1 x2 x3 x4 x5 x6 x7 x8 x9 x10 x11
   go_wp2
   go_meet
   exact⟨rfl,rfl,HX⟩
  case rest=>
   rename fV=>y2
   obtain⟨hs6,hs7,HQ2⟩:=hcut
   subst hs6
   subst hs7
   clear HQ1
   refine hK _ _ ?_
   clear hK K
   refine bT (fun K hK=> ?_)
   go_cut [8] (fun s8 wc=>s8=.bool true/\Hid (Gq w0 P G D (rD rep gF cl yo ne d0 d1 d2 d3 d4 d5 sa os.length cp) (.slice sa os.length cp) os (wc) (r)))
   case first=>
    have kF:=HQ2.rm.kF
    go_wp2
    go_meet
    exact⟨rfl,HQ2⟩
   case rest=>
    rename fV=>y3
    obtain⟨hs8,HQ3⟩:=hcut
    subst hs8
    clear HQ2
    refine hK _ _ ?_
    clear hK K
    exact Tj HF HH2 HA rep gF cl yo ne d0 d1 d2 d3 d4 d5 os sa cp HHL fr t HTB D e0 eY _ HQ3
end Ref
end Go.Proofs.YtbhbbeebncmaiaaGreatDoor
