import Derived.Test.YtbhbbeebncmaiaaGreatDoorMg48
set_option linter.all false
set_option maxHeartbeats 4000000
set_option maxRecDepth 10000
open Go.ChangeShapes Go.WideShapes Go.ChangeAt Go.RowKit
open Go renaming World → fV, Calls → f_
open Go.RowKit renaming Below → gm
open Go.Proofs.Tryz renaming prog → Vh
open Go.Value renaming int → Vb
open Go.IntKind renaming u8 → Vd, u16 → Ve, u32 → Vf, i64 → Vg
open Go.Proofs.Tryz
namespace Go.Proofs.YtbhbbeebncmaiaaGreatDoor
namespace Oj
open Bs Js Ref
variable{R:Mc→Rf→Prop} {w0 w w':fV} {Wb tb:Nat} {tv bv:Value} {L:List Pr} {fr:ByteArray→Fr}
theorem Kb(c:qg)(bm cg gg:Nat)(tb:Nat)(rx tx:Nat)(h1:c.rx.toNat=rx)(h2:c.tx.toNat=tx):ig (Qb c bm cg gg) (Rq (p_ tb) c.k0 c.k1 c.k2 c.k3 c.k4 c.k5 c.name c.cap c.gQ c.blk c.win rx tx):=
 ⟨⟨⟨by show(0:Int)<=0/\(0:Int)<=4294967295;omega,by show(0:Int)<=0/\(0:Int)<=65535;omega,by show(0:Int)<=0/\(0:Int)<=4294967295;omega,by show(0:Int)<=0/\(0:Int)<=4294967295;omega,by show(0:Int)<=0/\(0:Int)<=4294967295;omega,by show(0:Int)<=0/\(0:Int)<=4;omega,by show(0:Int)<=0/\(0:Int)<=4294967295;omega,by show(0:Int)<=0/\(0:Int)<=4294967295;omega,by show(0:Int)<=0/\(0:Int)<=4294967295;omega,by show(0:Int)<=0/\(0:Int)<=4294967295;omega,by show(0:Int)<=0/\(0:Int)<=4294967295;omega,by show(0:Int)<=0/\(0:Int)<=4294967295;omega,by show(0:Int)<=0/\(0:Int)<=4;omega,by show(0:Int)<=0/\(0:Int)<=65535;omega,by show(0:Int)<=0/\(0:Int)<=65535;omega,by show(0:Nat)<=262144;omega⟩,au rfl,rfl,au rfl⟩,⟨rfl,rfl,rfl,rfl,rfl,rfl,by show rx=c.rx.toNat;exact h1.symm,by show tx=c.tx.toNat;exact h2.symm,rfl,rfl,rfl,rfl,rfl,rfl,rfl,rfl,rfl,by show(0:Int)=if(0:Int)=3 then _ else 0;rw[ax (by decide)],rfl,rfl,rfl,rfl,rfl,rfl,rfl,⟨_,rfl⟩⟩,fun s hs=>by cases hs⟩
theorem G_(h:Ws ig w0 w Wb (p_ tb) bv L)(hLm:L.length<=65536)(a n:Int)(k0 k1 k2 k3 k4 k5:UInt8)(name:ByteArray)(cap:Int)(gQ:ByteArray)(blk win:Int)(rx tx:Nat)(s:ByteArray)(hg:(qg.mk k0 k1 k2 k3 k4 k5 name cap gQ blk win rx tx).Good):
  f_ Vh 11 #[p_ Wb,.agg (rI 1 a n k0.toNat k1.toNat k2.toNat k3.toNat k4.toNat k5.toNat name cap gQ blk win rx tx s)] w fun ee w'=>ee=.returned (.bool true)/\∃bv' p,Ws ig w0 w' Wb (p_ tb) bv' (L++ [p]):=by
 have HWw:=gu h
 have HW1:=gu (h.alloc (.cells (rI 1 a n k0.toNat k1.toNat k2.toNat k3.toNat k4.toNat k5.toNat name cap gQ blk win rx tx s) 30))
 have HOP:Hid ((w.alloc (.cells (rI 1 a n k0.toNat k1.toNat k2.toNat k3.toNat k4.toNat k5.toNat name cap gQ blk win rx tx s) 30)).heap[w.heap.size]?=some (.cells (rI 1 a n k0.toNat k1.toNat k2.toNat k3.toNat k4.toNat k5.toNat name cap gQ blk win rx tx s) 30 (0,0))):=gu (G8 w _)
 have hltW:=Vj h.row
 have hneW:Wb≠w.heap.size:=aB hltW
 have HX0:Hid ((w.alloc (.cells (rI 1 a n k0.toNat k1.toNat k2.toNat k3.toNat k4.toNat k5.toNat name cap gQ blk win rx tx s) 30)).cell? (a_ Wb 0)=some (p_ tb)):=gu (by rw[HY _ Wb 0 _ _ _ (h.alloc (.cells (rI 1 a n k0.toNat k1.toNat k2.toNat k3.toNat k4.toNat k5.toNat name cap gQ blk win rx tx s) 30)).row];rfl)
 have HSC:Hid (Sc tb Wb w.heap.size (qg.mk k0 k1 k2 k3 k4 k5 name cap gQ blk win rx tx) (w.alloc (.cells (rI 1 a n k0.toNat k1.toNat k2.toNat k3.toNat k4.toNat k5.toNat name cap gQ blk win rx tx s) 30))):=gu (by
  obtain⟨b0,b1,b2,b3,b4,b5,b6,b7,b8,b9,b10,b11,b12,b13,b14,b15,b16⟩:=NU HOP
  exact⟨HX0,b3,b4,b5,b6,b7,b8,b9,b10,b11,b12,b13,b14,b15⟩)
 have HC:=gu (rf k0 k1 k2 k3 k4 k5 name cap gQ blk win rx tx hg (w.alloc (.cells (rI 1 a n k0.toNat k1.toNat k2.toNat k3.toNat k4.toNat k5.toNat name cap gQ blk win rx tx s) 30)) (h.alloc (.cells (rI 1 a n k0.toNat k1.toNat k2.toNat k3.toNat k4.toNat k5.toNat name cap gQ blk win rx tx s) 30)).RN (h.alloc (.cells (rI 1 a n k0.toNat k1.toNat k2.toNat k3.toNat k4.toNat k5.toNat name cap gQ blk win rx tx s) 30)).SK)
 have HG:=gu hg
 obtain⟨i0,hi,hz0,hz1,hz2⟩:=Vx ET
 clear h hg HX0 HOP
 go_enter func11,ntmps11
 go_wp2_with fail
 refine HC.mono ?_
 rintro ee u ⟨Q,B,bm,cg,gg,rfl,hu,hQn⟩
 have hbu:=zV hu.mx
 have HSu:=gu (HSC.below hbu)
 have HNG:=gu (aG HW1.RN hbu.size)
 have HGR:=gu (Oj.Gr.below HW1.Sk hbu HW1.RN)
 have HU:=gu hu
 have HQQ:=gu hQn
 clear hbu HC HSC hu hQn
 obtain⟨x0,x1,x2,x3,x4,x5,x6,x7,x8,x9,x10,x11,x12,x13⟩:=gB HSu
 have HR:Hid (f_ Vh 16 #[p_ tb,.agg (rM k0.toNat k1.toNat k2.toNat k3.toNat k4.toNat k5.toNat name cap gQ blk win rx tx)] u.drew fun e u2=>∃G,e=.returned (.tuple #[p_ G,.bool true])/\Hid (Rm u (fun _=>False) u2 G (Rq (p_ tb) k0 k1 k2 k3 k4 k5 name cap gQ blk win rx tx))/\Sc tb Wb w.heap.size (qg.mk k0 k1 k2 k3 k4 k5 name cap gQ blk win rx tx) u2):=gu (by
  have q:=Ref.JE tb k0 k1 k2 k3 k4 k5 name cap gQ blk win rx tx HG u.drew HNG HGR
  simp only[dJ]at q
  refine q.mono ?_
  rintro e u2 ⟨G,rfl,hr⟩
  have hr':Rm u (fun _=>False) u2 G _:=⟨hr.os,hr.tape,hr.output,hr.size,hr.kept,hr.own,hr.low,hr.gl,hr.row,hr.came,hr.goes,hr.apart⟩
  exact⟨G,rfl,gu hr',HSu.below (Av hr')⟩)
 go_wp2
 go_region_held3 (fun u=>u.cell? (a_ Wb 0)=some (p_ tb)/\u.cell? (a_ w.heap.size 3)=some (Vb Vd k0.toNat)/\u.cell? (a_ w.heap.size 4)=some (Vb Vd k1.toNat)/\u.cell? (a_ w.heap.size 5)=some (Vb Vd k2.toNat)/\u.cell? (a_ w.heap.size 6)=some (Vb Vd k3.toNat)/\u.cell? (a_ w.heap.size 7)=some (Vb Vd k4.toNat)/\u.cell? (a_ w.heap.size 8)=some (Vb Vd k5.toNat)/\u.cell? (a_ w.heap.size 9)=some (.string name)/\u.cell? (a_ w.heap.size 10)=some (Vb Vg cap)/\u.cell? (a_ w.heap.size 11)=some (.string gQ)/\u.cell? (a_ w.heap.size 12)=some (Vb Vg blk)/\u.cell? (a_ w.heap.size 13)=some (Vb Vg win)/\u.cell? (a_ w.heap.size 14)=some (Vb Vg rx)/\u.cell? (a_ w.heap.size 15)=some (Vb Vg tx)) (go_keep)
  (first|(go_at_call 16;refine HR.mono ?_;rintro ee u1 ⟨Gp,rfl,HU1,y0,y1,y2,y3,y4,y5,y6,y7,y8,y9,y10,y11,y12,y13⟩))
 have HBN:=gu (HW1.born HU HQQ HU1 (Kb _ _ _ _ _ _ _ (by simp) (by simp)))
 have HWv:=gu HBN.1
 obtain⟨ao,cp,hbv⟩:=jK HWv.own
 have xb:u1.cell? (a_ Wb 1)=some (.slice ao L.length cp):=by rw[HY u1 Wb 1 _ _ _ HWv.row,hbv];rfl
 have fb:u1.frozen? (a_ Wb 1)=false:=by simp[World.frozen?,HWv.row]
 have hWl:Wb<u1.heap.size:=Vj HWv.row
 have HBV:=gu hbv
 clear hbv HR HW1 HU HU1 HNG HGR HSu HQQ x0 x1 x2 x3 x4 x5 x6 x7 x8 x9 x10 x11 x12 x13 y0 y1 y2 y3 y4 y5 y6 y7 y8 y9 y10 y11 y12 y13
 go_wp2_with (at_builtin;refine h_ rfl (.tmp 56) (.tmp 60) 34 rfl 0 48 i0 (.agg #[.pointer none,.pointer none]) 2 16 underlying34 hi hz0 hz1 hz2 rfl (by decide) bv L.length (lu L) ?ev ?own (a_ u1.heap.size 0) 1 1 [p_ Q,p_ Gp] ?ad rfl ?c1 ?one ?h63 ?hby ?hba ?_)
 case ev=>rw[gB HBV];rfl
 case own=>first|exact HWv.own.alloc _
 case ad=>rfl
 case c1=>first|exact iW u1 [p_ Q,p_ Gp] 48
 case one=>intro x hx;simp at hx;rcases hx with rfl|rfl<;>rfl
 case h63=>simp only[maxLen];omega
 case hby=>omega
 case hba=>exact aN _
 intro v' w2 hown hgr hf
 have hA:gm u1.heap.size u1 (u1.alloc (.cells #[p_ Q,p_ Gp] 48)):=(R9 _ _).alloc (ai _) _
 have hWA:=HWv.alloc (.cells #[p_ Q,p_ Gp] 48)
 obtain⟨_,hOK,hF1,hF2⟩:=gB HBN
 have hM:=hWA.more _ (hOK.move (fun k hk=>hA.block k (hOK.lt hk)) hA.size hWA.SK hWA.Sk) hF1 hF2 hgr hown (by
  rcases hf with q|⟨g,q1,q2⟩
  ·exact au q
  ·exact aA ⟨g,q1,by simpa using q2⟩)
 have hrow:=hgr.block Wb (Vj hWA.row) (fun e=>ze hWA.row hWA.own e.symm)
 have xb2:=(Vk (a:=(a_ Wb 1)) hrow).trans (HY _ Wb 1 _ _ _ hWA.row)
 have fb2:w2.frozen? (a_ Wb 1)=false:=by rw[VJ (a:=(a_ Wb 1)) hrow];simp[World.frozen?,hWA.row]
 obtain⟨a2,c2,hv2⟩:=jK hown
 have xb3:w2.cell? (a_ Wb 1)=some bv:=xb2
 have HM:=gu hM
 rw[gB HBV]at xb3
 clear hM hOK hF1 hF2 hA hWA hrow xb2 hown hgr hf xb fb HBN HWv
 subst hv2
 go_wp2
 go_ret
 exact⟨rfl,_,_,HM⟩
end Oj
namespace Oj
open Bs Js Ref
variable{R:Mc→Rf→Prop} {w0 w w':fV} {Wb:Nat} {tv bv:Value} {L:List Pr} {fr:ByteArray→Fr}
theorem J9(h:Ws ig w0 w Wb tv bv L)(hL:0<L.length)(hL2:L.length<=65536)(a n:Int)(k0 k1 k2 k3 k4 k5:UInt8)(name:ByteArray)(cap:Int)(gQ:ByteArray)(blk win rx tx:Int)(s:ByteArray)(ha: -9223372036854775808<=a/\a<=9223372036854775807)(hs:s.size<=65536):
  f_ Vh 11 #[p_ Wb,.agg (rI 2 a n k0.toNat k1.toNat k2.toNat k3.toNat k4.toNat k5.toNat name cap gQ blk win rx tx s)] w fun ee w'=>ee=.returned (.bool true)/\∃L',L'.length=L.length/\Ws ig w0 w' Wb tv bv L':=by
 obtain⟨i,hi,hP⟩:=lY a L.length hL hL2 ha w
 obtain⟨p,Qi,Gi,g,cp,len,v,HP,hp,HW1,HOP,HY0,HY1,HBV,hlen0,hiI,HQ,HG,HLEN,HV,HWw,hltW,xW⟩:=front h hL i hi a hP (rI 2 a n k0.toNat k1.toNat k2.toNat k3.toNat k4.toNat k5.toNat name cap gQ blk win rx tx s)
 have HPI:=gu hp
 have HI:=gu hi
 have hneW:Wb≠w.heap.size:=aB hltW
 clear h hP hp ha hL hL2
 go_enter func11,ntmps11
 go_wp2
 rw[<-gB HV]
 clear xW hneW hltW
 have x1:v.cell? (a_ Wb 1)=some (.slice (some (a_ g 0)) len cp):=by rw[HY v Wb 1 _ _ _ HW1.row,gB HBV,<-gB HLEN];rfl
 have z0:v.cell? (a_ w.heap.size 0)=some (Vb Vg 2):=HY v _ 0 _ _ _ HOP
 have z1:v.cell? (a_ w.heap.size 1)=some (Vb Vg a):=HY v _ 1 _ _ _ HOP
 have z2:v.cell? (a_ w.heap.size 2)=some (Vb Vg n):=HY v _ 2 _ _ _ HOP
 have z16:v.cell? (a_ w.heap.size 16)=some (.string s):=HY v _ 16 _ _ _ HOP
 have y0:=gB HY0
 have y1:=gB HY1
 go_cut [9] (fun s9 wc=>s9=(p_ v.heap.size)/\Hid (Lk (v.alloc (.cells #[p_ Qi,p_ Gi] 48)) wc))
 case first=>
  go_region_held3 (fun u=>u.cell? (a_ Wb 1)=some (.slice (some (a_ g 0)) len cp)/\u.cell? (a_ w.heap.size 1)=some (Vb Vg a)/\u.cell? (a_ g (i*2))=some (p_ Qi)/\u.cell? (a_ g (i*2+1))=some (p_ Gi)) (go_keep)
   (first|(go_at_call 14;refine(HP _).mono ?_;rintro ee u1 ⟨rfl,rfl⟩))
  all_goals go_wp2
  all_goals go_meet
  all_goals exact⟨rfl,gu ⟨rfl,rfl,rfl,rfl⟩⟩
 case rest=>
  obtain⟨rfl,HLK⟩:=hcut
  rename fV=>x
  obtain⟨HWx,hsz,HPx,HOy,HF1,hzx,p0,p1,HB,HKP⟩:=back HW1 HLK HV HOP HWw HI HPI
  clear x1 z0 z1 z2 z16 y0 y1 HLK HW1
  have z0:x.cell? (a_ w.heap.size 0)=some (Vb Vg 2):=HY x _ 0 _ _ _ HOy
  have z2:x.cell? (a_ w.heap.size 2)=some (Vb Vg n):=HY x _ 2 _ _ _ HOy
  have z16:x.cell? (a_ w.heap.size 16)=some (.string s):=HY x _ 16 _ _ _ HOy
  have hq:Qi=p.Q:=gB HQ
  have hg:Gi=p.G:=gB HG
  have HS:=gu hs
  have HRel:=gu HB.rel
  have HCC:Hid (f_ Vh 17 #[p_ Qi,.string s] x.drew fun ee u=>ee=.returned (.bool (decide (p.r.rl.length<p.r.rx)))/\Hid (Bx x (iq p.B p.m) u p.Q p.B (p.m.put s))/\(u.cell? (a_ v.heap.size 1)=some (p_ Gi))/\u.cell? (a_ w.heap.size 16)=some (.string s)/\u.cell? (a_ v.heap.size 0)=some (p_ Qi)):=gu (by
   rw[hq]
   have hd:Bx x (iq p.B p.m) x.drew p.Q p.B p.m:=⟨HB.bx.mx.drew,HB.bx.row⟩
   refine(yw hd s (by have:=gB HS;omega)).mono ?_
   rintro ee u ⟨rfl,hu⟩
   refine⟨by rw[HRel.e.rl,HRel.e.rx],gu hu,?_,?_,?_⟩
   ·exact(Vk (a:=(a_ v.heap.size 1)) (HKP u _ hu v.heap.size (by omega) hzx)).trans p1
   ·exact(Vk (a:=(a_ w.heap.size 16)) (HKP u _ hu w.heap.size (ai _) (by omega))).trans z16
   ·rw[<-hq];exact(Vk (a:=(a_ v.heap.size 0)) (HKP u _ hu v.heap.size (by omega) hzx)).trans p0)
  have HCR:Hid (∀u,Hid (Bx x (iq p.B p.m) u p.Q p.B (p.m.put s))->f_ Vh 18 #[p_ Gi,.string s] u fun ee u2=>ee=.returned (.bool (decide (p.r.rl.length<p.r.rx)))/\Hid (∃L',L'.length=L.length/\Ws ig w0 u2 Wb tv bv L')/\(u2.cell? (a_ v.heap.size 1)=some (p_ Gi))/\u2.cell? (a_ w.heap.size 16)=some (.string s)/\u2.cell? (a_ v.heap.size 0)=some (p_ Qi)):=gu (fun u hu=>by
   rw[hg]
   have hrm:=HWx.mO i HI HPI hu
   have hcm:=HB.bx.mx.came
   refine(LX hrm s (by rw[HRel.e.rl,HRel.e.rx];exact hcm.2.2.2.1) (by rw[HRel.e.rx];exact hcm.2.1)).mono ?_
   rintro ee u2 ⟨rfl,vv,hr⟩
   have hk2:∀k,w.heap.size<=k->k<x.heap.size->u2.heap[k]?=x.heap[k]?:=fun k h1 h2=>(hr.kept k (aQ h2 hu.mx.size) (fun hf=>by have:=HF1 k (aA (aA hf));omega)).trans (HKP u _ hu k h1 h2)
   refine⟨rfl,gu ⟨_,by simp,HWx.both' i HI HPI hu hr (HRel.put s HS vv)⟩,?_,?_,?_⟩
   ·exact(Vk (a:=(a_ v.heap.size 1)) (hk2 v.heap.size (by omega) hzx)).trans (by rw[<-hg];exact p1)
   ·exact(Vk (a:=(a_ w.heap.size 16)) (hk2 w.heap.size (ai _) (by omega))).trans z16
   ·exact(Vk (a:=(a_ v.heap.size 0)) (hk2 v.heap.size (by omega) hzx)).trans p0)
  clear hq hg hsz
  generalize decide (p.r.rl.length<p.r.rx)=bb at*
  go_wp2
  go_region_held3 (fun u=>u.cell? (a_ v.heap.size 1)=some (p_ Gi)/\u.cell? (a_ w.heap.size 16)=some (.string s)/\u.cell? (a_ v.heap.size 0)=some (p_ Qi)) (go_keep)
   (first|(go_at_call 17;refine HCC.mono ?_;rintro ee u1 ⟨rfl,HU1,e1,e16,e0⟩)|(go_at_call 18;refine(HCR _ HU1).mono ?_;rintro ee u2 ⟨rfl,HU2,f1,f16,f0⟩))
  go_wp2
  go_ret
  exact⟨by simp,HU2⟩
theorem GR(h:Ws ig w0 w Wb tv bv L)(hL:0<L.length)(hL2:L.length<=65536)(a n:Int)(k0 k1 k2 k3 k4 k5:UInt8)(name:ByteArray)(cap:Int)(gQ:ByteArray)(blk win rx tx:Int)(s:ByteArray)(ha: -9223372036854775808<=a/\a<=9223372036854775807)(i:Nat)(hi:i<L.length)(hP:∀w,f_ Vh 14 #[Vb Vg a,Vb Vg L.length] w fun e w'=>e=.returned (Vb Vg i)/\w'=w)(hen:L[i].r.gK≠3∨ ¬L[i].r.again<=wrap64 (L[i].r.now+1)):
  f_ Vh 11 #[p_ Wb,.agg (rI 4 a n k0.toNat k1.toNat k2.toNat k3.toNat k4.toNat k5.toNat name cap gQ blk win rx tx s)] w fun ee w'=>ee=.returned (.bool true)/\∃L',L'.length=L.length/\Ws ig w0 w' Wb tv bv L':=by
 obtain⟨p,Qi,Gi,g,cp,len,v,HP,hp,HW1,HOP,HY0,HY1,HBV,hlen0,hiI,HQ,HG,HLEN,HV,HWw,hltW,xW⟩:=front h hL i hi a hP (rI 4 a n k0.toNat k1.toNat k2.toNat k3.toNat k4.toNat k5.toNat name cap gQ blk win rx tx s)
 have HPI:=gu hp
 have HEN3:Hid (p.r.gK≠3∨ ¬p.r.again<=wrap64 (p.r.now+1)):=gu (by rw[<-hp];exact hen)
 clear hen
 have HI:=gu hi
 have hneW:Wb≠w.heap.size:=aB hltW
 clear h hP hp ha hL hL2
 go_enter func11,ntmps11
 go_wp2
 rw[<-gB HV]
 clear xW hneW hltW
 have x1:v.cell? (a_ Wb 1)=some (.slice (some (a_ g 0)) len cp):=by rw[HY v Wb 1 _ _ _ HW1.row,gB HBV,<-gB HLEN];rfl
 have z0:v.cell? (a_ w.heap.size 0)=some (Vb Vg 4):=HY v _ 0 _ _ _ HOP
 have z1:v.cell? (a_ w.heap.size 1)=some (Vb Vg a):=HY v _ 1 _ _ _ HOP
 have z2:v.cell? (a_ w.heap.size 2)=some (Vb Vg n):=HY v _ 2 _ _ _ HOP
 have z16:v.cell? (a_ w.heap.size 16)=some (.string s):=HY v _ 16 _ _ _ HOP
 have y0:=gB HY0
 have y1:=gB HY1
 go_cut [9] (fun s9 wc=>s9=(p_ v.heap.size)/\Hid (Lk (v.alloc (.cells #[p_ Qi,p_ Gi] 48)) wc))
 case first=>
  go_region_held3 (fun u=>u.cell? (a_ Wb 1)=some (.slice (some (a_ g 0)) len cp)/\u.cell? (a_ w.heap.size 1)=some (Vb Vg a)/\u.cell? (a_ g (i*2))=some (p_ Qi)/\u.cell? (a_ g (i*2+1))=some (p_ Gi)) (go_keep)
   (first|(go_at_call 14;refine(HP _).mono ?_;rintro ee u1 ⟨rfl,rfl⟩))
  all_goals go_wp2
  all_goals go_meet
  all_goals exact⟨rfl,gu ⟨rfl,rfl,rfl,rfl⟩⟩
 case rest=>
  obtain⟨rfl,HLK⟩:=hcut
  rename fV=>x
  obtain⟨HWx,hsz,HPx,HOy,HF1,hzx,p0,p1,HB,HKP⟩:=back HW1 HLK HV HOP HWw HI HPI
  clear x1 z0 z1 z2 z16 y0 y1 HLK HW1
  have z0:x.cell? (a_ w.heap.size 0)=some (Vb Vg 4):=HY x _ 0 _ _ _ HOy
  have z2:x.cell? (a_ w.heap.size 2)=some (Vb Vg n):=HY x _ 2 _ _ _ HOy
  have z16:x.cell? (a_ w.heap.size 16)=some (.string s):=HY x _ 16 _ _ _ HOy
  have hq:Qi=p.Q:=gB HQ
  have hg:Gi=p.G:=gB HG
  have HRel:=gu HB.rel
  have hgo:=HB.bx.mx.goes
  have htx:p.r.tx<=16:=by rw[HRel.e.tx];exact hgo.2.1
  have htl:p.r.tl.length<=p.r.tx:=by rw[HRel.e.tl,HRel.e.tx];exact hgo.2.2.2.1
  have HTX:=gu htx
  have HTL:=gu htl
  have HLR:=gu (HRel.EP htx htl)
  clear hgo htx htl
  have HT3:Hid ((p.m.st=3->wrap64 (p.m.now+1)<wrap64 (p.m.gr+2))/\(p.r.gK=3->wrap64 (p.r.now+1)<p.r.again)):=gu (by
   have q:=(gB HEN3)
   have e:=HRel.e
   have q2:p.r.gK=3->wrap64 (p.r.now+1)<p.r.again:=fun h3=>by
    rcases q with q|q
    ·exact absurd h3 q
    ·omega
   refine⟨fun h3=> ?_,q2⟩
   have q3:=q2 (by rw[e.gK];exact h3)
   rw[e.now,e.again,ay h3]at q3
   exact q3)
  obtain⟨d,hd⟩:∃d,d=IntKind.u32.wrap n:=⟨_,rfl⟩
  have hwd:IntKind.u32.wrap n=d:=hd.symm
  have HDB:Hid (0<=d/\d<=4294967295):=gu (by rw[hd,VU];omega)
  have HCC:Hid (f_ Vh 21 #[p_ Qi,Vb Vf d] x fun ee u=>ee=.returned (.tuple #[])/\Hid (∃b,Bx x (iq p.B p.m) u p.Q p.B ((p.m.nY d).at b))/\(u.cell? (a_ v.heap.size 1)=some (p_ Gi))/\u.cell? (a_ w.heap.size 2)=some (Vb Vg n)):=gu (by
   rw[hq]
   refine(Br HB.bx HRel.late HT3.1 d HDB).mono ?_
   rintro ee u ⟨rfl,b,hu⟩
   refine⟨rfl,gu ⟨b,hu⟩,?_,?_⟩
   ·exact(Vk (a:=(a_ v.heap.size 1)) (HKP u _ hu v.heap.size (by omega) hzx)).trans p1
   ·exact(Vk (a:=(a_ w.heap.size 2)) (HKP u _ hu w.heap.size (ai _) (by omega))).trans z2)
  have HCR:Hid (∀u,Hid (∃b,Bx x (iq p.B p.m) u p.Q p.B ((p.m.nY d).at b))->f_ Vh 22 #[p_ Gi,Vb Vf d] u fun ee u2=>ee=.returned (.tuple #[])/\Hid (∃L',L'.length=L.length/\Ws ig w0 u2 Wb tv bv L')):=gu (fun u hu=>by
   rw[hg]
   obtain⟨b,hu⟩:=gB hu
   have hrm:=HWx.mO i HI HPI hu
   refine(Ref.xy hrm HLR d HDB HT3.2).mono ?_
   rintro ee u2 ⟨rfl,vv,hr⟩
   exact⟨rfl,gu ⟨_,by simp,HWx.both' i HI HPI hu hr (HRel.tick d HDB vv b)⟩⟩)
  clear hq hg hsz hd
  go_wp2_with fail
  refine HCC.mono ?_
  rintro ee u1 ⟨rfl,HU1,e1,e2⟩
  go_wp2_with fail
  refine(HCR _ HU1).mono ?_
  rintro ee u2 ⟨rfl,HU2⟩
  go_wp2
  go_ret
  exact⟨rfl,HU2⟩
theorem GY(h:Ws ig w0 w Wb tv bv L)(hL:0<L.length)(hL2:L.length<=65536)(a n:Int)(k0 k1 k2 k3 k4 k5:UInt8)(name:ByteArray)(cap:Int)(gQ:ByteArray)(blk win rx tx:Int)(s:ByteArray)(ha: -9223372036854775808<=a/\a<=9223372036854775807):
  f_ Vh 11 #[p_ Wb,.agg (rI 6 a n k0.toNat k1.toNat k2.toNat k3.toNat k4.toNat k5.toNat name cap gQ blk win rx tx s)] w fun ee w'=>ee=.returned (.bool true)/\∃L',L'.length=L.length/\Ws ig w0 w' Wb tv bv L':=by
 obtain⟨i,hi,hP⟩:=lY a L.length hL hL2 ha w
 obtain⟨p,Qi,Gi,g,cp,len,v,HP,hp,HW1,HOP,HY0,HY1,HBV,hlen0,hiI,HQ,HG,HLEN,HV,HWw,hltW,xW⟩:=front h hL i hi a hP (rI 6 a n k0.toNat k1.toNat k2.toNat k3.toNat k4.toNat k5.toNat name cap gQ blk win rx tx s)
 have HPI:=gu hp
 have HI:=gu hi
 have hneW:Wb≠w.heap.size:=aB hltW
 clear h hP hp ha hL hL2
 go_enter func11,ntmps11
 go_wp2
 rw[<-gB HV]
 clear xW hneW hltW
 have x1:v.cell? (a_ Wb 1)=some (.slice (some (a_ g 0)) len cp):=by rw[HY v Wb 1 _ _ _ HW1.row,gB HBV,<-gB HLEN];rfl
 have z0:v.cell? (a_ w.heap.size 0)=some (Vb Vg 6):=HY v _ 0 _ _ _ HOP
 have z1:v.cell? (a_ w.heap.size 1)=some (Vb Vg a):=HY v _ 1 _ _ _ HOP
 have z2:v.cell? (a_ w.heap.size 2)=some (Vb Vg n):=HY v _ 2 _ _ _ HOP
 have z16:v.cell? (a_ w.heap.size 16)=some (.string s):=HY v _ 16 _ _ _ HOP
 have y0:=gB HY0
 have y1:=gB HY1
 go_cut [9] (fun s9 wc=>s9=(p_ v.heap.size)/\Hid (Lk (v.alloc (.cells #[p_ Qi,p_ Gi] 48)) wc))
 case first=>
  go_region_held3 (fun u=>u.cell? (a_ Wb 1)=some (.slice (some (a_ g 0)) len cp)/\u.cell? (a_ w.heap.size 1)=some (Vb Vg a)/\u.cell? (a_ g (i*2))=some (p_ Qi)/\u.cell? (a_ g (i*2+1))=some (p_ Gi)) (go_keep)
   (first|(go_at_call 14;refine(HP _).mono ?_;rintro ee u1 ⟨rfl,rfl⟩))
  all_goals go_wp2
  all_goals go_meet
  all_goals exact⟨rfl,gu ⟨rfl,rfl,rfl,rfl⟩⟩
 case rest=>
  obtain⟨rfl,HLK⟩:=hcut
  rename fV=>x
  obtain⟨HWx,hsz,HPx,HOy,HF1,hzx,p0,p1,HB,HKP⟩:=back HW1 HLK HV HOP HWw HI HPI
  clear x1 z0 z1 z2 z16 y0 y1 HLK HW1
  have z0:x.cell? (a_ w.heap.size 0)=some (Vb Vg 6):=HY x _ 0 _ _ _ HOy
  have z2:x.cell? (a_ w.heap.size 2)=some (Vb Vg n):=HY x _ 2 _ _ _ HOy
  have z16:x.cell? (a_ w.heap.size 16)=some (.string s):=HY x _ 16 _ _ _ HOy
  have hq:Qi=p.Q:=gB HQ
  have hg:Gi=p.G:=gB HG
  have HRel:=gu HB.rel
  have hgo:=HB.bx.mx.goes
  have htx:p.r.tx<=16:=by rw[HRel.e.tx];exact hgo.2.1
  have htl:p.r.tl.length<=p.r.tx:=by rw[HRel.e.tl,HRel.e.tx];exact hgo.2.2.2.1
  have HTX:=gu htx
  have HTL:=gu htl
  have HLR:=gu (HRel.EP htx htl)
  clear hgo htx htl
  obtain⟨a0,h0⟩:∃a0,a0=p.m.now:=⟨_,rfl⟩
  obtain⟨a1,h1⟩:∃a1,a1=p.m.st:=⟨_,rfl⟩
  obtain⟨a2,h2⟩:∃a2,a2=p.m.phase:=⟨_,rfl⟩
  obtain⟨a4,h4⟩:∃a4,a4=p.m.gZ:=⟨_,rfl⟩
  obtain⟨a6,h6⟩:∃a6,a6=p.m.lost:=⟨_,rfl⟩
  have HE:=gu (⟨h0,h1,h2,h4,h6⟩:a0=p.m.now/\a1=p.m.st/\a2=p.m.phase/\a4=p.m.gZ/\a6=p.m.lost)
  have heql:=fun u=>UG.LF a0 a1 a2 0 a4 0 a6 0 u
  have HKB:Hid (∀u,gm x.heap.size x u->∀k,k<x.heap.size->u.heap[k]?=x.heap[k]?):=gu (fun u hu k hk=>hu.block k hk)
  have HCC:Hid (f_ Vh 25 #[p_ Qi] x.drew fun ee u=>ee=.returned (.agg (rK a0 a1 a2 0 a4 0 a6 0))/\Hid (gm x.heap.size x u)/\(u.cell? (a_ v.heap.size 1)=some (p_ Gi))/\u.cell? (a_ v.heap.size 0)=some (p_ Qi)):=gu (by
   rw[hq]
   have hd:Bx x (iq p.B p.m) x.drew p.Q p.B p.m:=⟨HB.bx.mx.drew,HB.bx.row⟩
   refine(DC hd).mono ?_
   rintro ee u ⟨rfl,hu⟩
   have hb:gm x.heap.size x u:=((R9 x.heap.size x).drew).trans hu
   obtain⟨g0,g1,g2,g4,g6⟩:=gB HE
   have hca:p.m.cached=0:=by unfold Mc.cached;rw[HRel.late.cd];rfl
   refine⟨?_,gu hb,?_,?_⟩
   ·rw[g0,g1,g2,g4,g6,BG HRel.late,HRel.e.img,hca];rfl
   ·exact(Vk (a:=(a_ v.heap.size 1)) (HKB u hb v.heap.size hzx)).trans p1
   ·rw[<-hq];exact(Vk (a:=(a_ v.heap.size 0)) (HKB u hb v.heap.size hzx)).trans p0)
  have HCR:Hid (∀u,Hid (gm x.heap.size x u)->f_ Vh 26 #[p_ Gi] u fun ee u2=>ee=.returned (.agg (rK a0 a1 a2 0 a4 0 a6 0))/\Hid (gm x.heap.size x u2)/\(u2.cell? (a_ v.heap.size 1)=some (p_ Gi))/\u2.cell? (a_ v.heap.size 0)=some (p_ Qi)):=gu (fun u hu=>by
   rw[hg]
   have hrm:=HB.rm.below hu
   have hE:=HRel.e
   refine(Ref.AZ hrm (by rw[hE.gK];have:=HRel.late.st;omega) hE.cv hE.iv).mono ?_
   rintro ee u2 ⟨rfl,hb2⟩
   have hb:gm x.heap.size x u2:=hu.trans (hb2.mono hu.size)
   obtain⟨g0,g1,g2,g4,g6⟩:=gB HE
   refine⟨?_,gu hb,?_,?_⟩
   ·rw[g0,g1,g2,g4,g6,hE.now,hE.gK,hE.phase,hE.gZ,hE.lost]
   ·exact(Vk (a:=(a_ v.heap.size 1)) (HKB u2 hb v.heap.size hzx)).trans (by rw[<-hg];exact p1)
   ·exact(Vk (a:=(a_ v.heap.size 0)) (HKB u2 hb v.heap.size hzx)).trans p0)
  clear hq hg hsz h0 h1 h2 h4 h6
  go_wp2
  go_region_held3 (fun u=>u.cell? (a_ v.heap.size 1)=some (p_ Gi)/\u.cell? (a_ v.heap.size 0)=some (p_ Qi)) (go_keep)
   (first|(go_at_call 25;refine HCC.mono ?_;rintro ee u1 ⟨rfl,HU1,e1,e0⟩)|(go_at_call 26;refine(HCR _ HU1).mono ?_;rintro ee u2 ⟨rfl,HU2,f1,f0⟩))
  go_wp2
  go_ret
  exact⟨rfl,L,rfl,HWx.under HU2⟩
theorem F9(h:Ws ig w0 w Wb tv bv L)(hL:0<L.length)(hL2:L.length<=65536)(a n:Int)(k0 k1 k2 k3 k4 k5:UInt8)(name:ByteArray)(cap:Int)(gQ:ByteArray)(blk win rx tx:Int)(s:ByteArray)(ha: -9223372036854775808<=a/\a<=9223372036854775807):
  f_ Vh 11 #[p_ Wb,.agg (rI 7 a n k0.toNat k1.toNat k2.toNat k3.toNat k4.toNat k5.toNat name cap gQ blk win rx tx s)] w fun ee w'=>ee=.returned (.bool true)/\∃L',L'.length=L.length/\Ws ig w0 w' Wb tv bv L':=by
 obtain⟨i,hi,hP⟩:=lY a L.length hL hL2 ha w
 obtain⟨p,Qi,Gi,g,cp,len,v,HP,hp,HW1,HOP,HY0,HY1,HBV,hlen0,hiI,HQ,HG,HLEN,HV,HWw,hltW,xW⟩:=front h hL i hi a hP (rI 7 a n k0.toNat k1.toNat k2.toNat k3.toNat k4.toNat k5.toNat name cap gQ blk win rx tx s)
 have HPI:=gu hp
 have HI:=gu hi
 have hneW:Wb≠w.heap.size:=aB hltW
 clear h hP hp ha hL hL2
 go_enter func11,ntmps11
 go_wp2
 rw[<-gB HV]
 clear xW hneW hltW
 have x1:v.cell? (a_ Wb 1)=some (.slice (some (a_ g 0)) len cp):=by rw[HY v Wb 1 _ _ _ HW1.row,gB HBV,<-gB HLEN];rfl
 have z0:v.cell? (a_ w.heap.size 0)=some (Vb Vg 7):=HY v _ 0 _ _ _ HOP
 have z1:v.cell? (a_ w.heap.size 1)=some (Vb Vg a):=HY v _ 1 _ _ _ HOP
 have z2:v.cell? (a_ w.heap.size 2)=some (Vb Vg n):=HY v _ 2 _ _ _ HOP
 have z16:v.cell? (a_ w.heap.size 16)=some (.string s):=HY v _ 16 _ _ _ HOP
 have y0:=gB HY0
 have y1:=gB HY1
 go_cut [9] (fun s9 wc=>s9=(p_ v.heap.size)/\Hid (Lk (v.alloc (.cells #[p_ Qi,p_ Gi] 48)) wc))
 case first=>
  go_region_held3 (fun u=>u.cell? (a_ Wb 1)=some (.slice (some (a_ g 0)) len cp)/\u.cell? (a_ w.heap.size 1)=some (Vb Vg a)/\u.cell? (a_ g (i*2))=some (p_ Qi)/\u.cell? (a_ g (i*2+1))=some (p_ Gi)) (go_keep)
   (first|(go_at_call 14;refine(HP _).mono ?_;rintro ee u1 ⟨rfl,rfl⟩))
  all_goals go_wp2
  all_goals go_meet
  all_goals exact⟨rfl,gu ⟨rfl,rfl,rfl,rfl⟩⟩
 case rest=>
  obtain⟨rfl,HLK⟩:=hcut
  rename fV=>x
  obtain⟨HWx,hsz,HPx,HOy,HF1,hzx,p0,p1,HB,HKP⟩:=back HW1 HLK HV HOP HWw HI HPI
  clear x1 z0 z1 z2 z16 y0 y1 HLK HW1
  have z0:x.cell? (a_ w.heap.size 0)=some (Vb Vg 7):=HY x _ 0 _ _ _ HOy
  have z2:x.cell? (a_ w.heap.size 2)=some (Vb Vg n):=HY x _ 2 _ _ _ HOy
  have z16:x.cell? (a_ w.heap.size 16)=some (.string s):=HY x _ 16 _ _ _ HOy
  have hq:Qi=p.Q:=gB HQ
  have hg:Gi=p.G:=gB HG
  have HRel:=gu HB.rel
  have hgo:=HB.bx.mx.goes
  have htx:p.r.tx<=16:=by rw[HRel.e.tx];exact hgo.2.1
  have htl:p.r.tl.length<=p.r.tx:=by rw[HRel.e.tl,HRel.e.tx];exact hgo.2.2.2.1
  have HTX:=gu htx
  have HTL:=gu htl
  have HLR:=gu (HRel.EP htx htl)
  clear hgo htx htl
  have hI:Hid (p.r.phase≠3):=gu (by rw[HRel.e.phase];have:=HRel.late.phase;omega)
  have HCC:Hid (f_ Vh 27 #[p_ Qi] x fun ee u=>ee=.returned (.tuple #[.string ⟨#[]⟩,.bool false])/\Hid (Bx x (iq p.B p.m) u p.Q p.B p.m)/\(u.cell? (a_ v.heap.size 1)=some (p_ Gi))/\u.cell? (a_ Gi 34)=some (Vb Vg p.r.phase)):=gu (by
   rw[hq]
   refine(D5 HB.bx (by have:=HRel.late.phase;omega)).mono ?_
   rintro ee u ⟨rfl,hu⟩
   refine⟨rfl,gu hu,?_,?_⟩
   ·exact(Vk (a:=(a_ v.heap.size 1)) (HKP u _ hu v.heap.size (by omega) hzx)).trans p1
   ·rw[hg];exact(HWx.mO i HI HPI hu).c34)
  have eph:(p.r.phase !=3)=true:=by simpa using gB hI
  clear hq hg hsz
  go_wp2_with fail
  refine HCC.mono ?_
  rintro ee u1 ⟨rfl,HU1,e1,e34⟩
  go_wp2
  go_ret
  refine⟨rfl,L,rfl,?_⟩
  have hrm:=HWx.mO i HI HPI HU1
  have q:=HWx.both' i HI HPI HU1 hrm HRel
  rw[Ob i HI HPI]at q
  exact q
end Oj
end Go.Proofs.YtbhbbeebncmaiaaGreatDoor
