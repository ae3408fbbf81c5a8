import Derived.Test.YtbhbbeebncmaiaaGreatDoorMg09
import Derived.Test.YtbhbbeebncmaiaaGreatDoorMg13
set_option linter.all false
set_option maxHeartbeats 4000000
set_option maxRecDepth 10000
open Go.ChangeShapes Go.WideShapes Go.ChangeAt Go.RowKit
open Go renaming World → fV, Calls → f_
open Go.RowKit renaming Below → gm
open Go.Proofs.Tryz renaming prog → Vh
open Go.Value renaming int → Vb
open Go.IntKind renaming u8 → Vd, u16 → Ve, u32 → Vf, i64 → Vg
open Go.Proofs.Tryz
namespace Go.Proofs.YtbhbbeebncmaiaaGreatDoor
namespace Rr
open Bs Rd
theorem Ih(h1 h2 h3 h4 h5 h6 o o' a b c d e f i1 i2 i3 i4 a' b' c' d' e' f' j1 j2 j3 j4:UInt8)(l:List UInt8)(w:fV)(hs:l.length+28<=9223372036854775807)(hh:QE.nC h1 h2 h3 h4 h5 h6=true)(ho1:1<=256*(o.toNat:Int)+(o'.toNat:Int))(ho2:256*(o.toNat:Int)+(o'.toNat:Int)<=2):
  f_ Vh 66 #[.string ⟨(h1::h2::h3::h4::h5::h6::o::o'::a::b::c::d::e::f::i1::i2::i3::i4::a'::b'::c'::d'::e'::f'::j1::j2::j3::j4::l).toArray⟩] w fun ee w'=>ee=.returned (.tuple #[.agg (rA (256*(o.toNat:Int)+(o'.toNat:Int)) a.toNat b.toNat c.toNat d.toNat e.toNat f.toNat (16777216*(i1.toNat:Int)+65536*(i2.toNat:Int)+256*(i3.toNat:Int)+(i4.toNat:Int)) a'.toNat b'.toNat c'.toNat d'.toNat e'.toNat f'.toNat (16777216*(j1.toNat:Int)+65536*(j2.toNat:Int)+256*(j3.toNat:Int)+(j4.toNat:Int))),Vb Vg 0])/\gm w.heap.size w w':=by
 obtain⟨s,hS⟩:∃s:ByteArray,s=⟨(h1::h2::h3::h4::h5::h6::o::o'::a::b::c::d::e::f::i1::i2::i3::i4::a'::b'::c'::d'::e'::f'::j1::j2::j3::j4::l).toArray⟩:=⟨_,rfl⟩
 have hz:s.size=l.length+28:=by rw[hS,gL];simp
 have O1:Hid (∀u:fV,f_ Vh 102 #[.string (s.extract 6 8)] u fun ee w'=>ee=.returned (Vb Vg (256*(o.toNat:Int)+(o'.toNat:Int)))/\w'=u):=gu (fun u=>by
  have e1:s.extract 6 8=⟨#[o,o']⟩:=by rw[hS];apply aC;rw[az];apply aJ;simp
  rw[e1]
  have q:=iE ⟨#[o,o']⟩ u (show 2<=4 by omega)
  rw[show jI (⟨#[o,o']⟩:ByteArray).data.toList=256*(o.toNat:Int)+(o'.toNat:Int)from by simp[jI]]at q
  exact q)
 have e6:(s.extract 0 6).toList=[h1,h2,h3,h4,h5,h6]:=by
  rw[hS,iX,Vw];rfl
 obtain⟨x,hx⟩:∃x,x=256*(o.toNat:Int)+(o'.toNat:Int):=⟨_,rfl⟩
 have hx0:0<=x/\x<=65535:=by have p1:=o.toNat_lt;have p2:=o'.toNat_lt;omega
 obtain⟨hx1,hx2⟩:=hx0
 rw[<-hx]at O1
 have k6:(6:Int)<=(s.size:Int):=by omega
 have k8:(8:Int)<=(s.size:Int):=by omega
 have k14:(14:Int)<=(s.size:Int):=by omega
 have k18:(18:Int)<=(s.size:Int):=by omega
 have k24:(24:Int)<=(s.size:Int):=by omega
 have k28:(28:Int)<=(s.size:Int):=by omega
 have k28': ¬(s.size:Int)<28:=by omega
 have hmx:(s.size:Int)<=9223372036854775807:=by omega
 have hq:((s.extract 0 6).toList==[0,1,8,0,6,4])=true:=by rw[e6];exact hh
 have M0:Hid (∀u:fV,f_ Vh 101 #[.string (s.extract 8 s.size)] u fun ee w'=>ee=.returned (.agg (rS a.toNat b.toNat c.toNat d.toNat e.toNat f.toNat))/\gm u.heap.size u w'):=gu (fun u=>by
  rw[hS,jT];exact oF a b c d e f _ u)
 have M1:Hid (∀u:fV,f_ Vh 101 #[.string (s.extract 18 s.size)] u fun ee w'=>ee=.returned (.agg (rS a'.toNat b'.toNat c'.toNat d'.toNat e'.toNat f'.toNat))/\gm u.heap.size u w'):=gu (fun u=>by
  rw[hS,jT];exact oF a' b' c' d' e' f' _ u)
 have I0:Hid (∀u:fV,f_ Vh 103 #[.string (s.extract 14 18)] u fun ee w'=>ee=.returned (Vb Vf (16777216*(i1.toNat:Int)+65536*(i2.toNat:Int)+256*(i3.toNat:Int)+(i4.toNat:Int)))/\w'=u):=gu (fun u=>by
  have e1:s.extract 14 18=⟨#[i1,i2,i3,i4]⟩:=by rw[hS];apply aC;rw[az];apply aJ;simp
  rw[e1];exact kX i1 i2 i3 i4 u)
 have I1:Hid (∀u:fV,f_ Vh 103 #[.string (s.extract 24 28)] u fun ee w'=>ee=.returned (Vb Vf (16777216*(j1.toNat:Int)+65536*(j2.toNat:Int)+256*(j3.toNat:Int)+(j4.toNat:Int)))/\w'=u):=gu (fun u=>by
  have e1:s.extract 24 28=⟨#[j1,j2,j3,j4]⟩:=by rw[hS];apply aC;rw[az];apply aJ;simp
  rw[e1];exact kX j1 j2 j3 j4 u)
 obtain⟨y,hy⟩:∃y,y=16777216*(i1.toNat:Int)+65536*(i2.toNat:Int)+256*(i3.toNat:Int)+(i4.toNat:Int):=⟨_,rfl⟩
 obtain⟨v,hv⟩:∃v,v=16777216*(j1.toNat:Int)+65536*(j2.toNat:Int)+256*(j3.toNat:Int)+(j4.toNat:Int):=⟨_,rfl⟩
 rw[<-hS,<-hx,<-hy,<-hv]
 rw[<-hx]at ho1 ho2
 rw[<-hy]at I0
 rw[<-hv]at I1
 have hwr:IntKind.u16.wrap x=x:=by rw[Vu];omega
 have ho1': ¬x<1:=by omega
 have ho2': ¬2<x:=by omega
 clear hS hz hx hy hv hh e6
 go_enter func66,ntmps66
 go_wp2_with fail
 refine(O1 _).mono ?_
 rintro ee w1 ⟨rfl,rfl⟩
 go_wp2
 go_region_held3 (fun _=>True) (trivial) (first|(go_at_call_of 101 (s.extract 8 s.size);refine(M0 _).mono ?_;rintro ee u0 ⟨rfl,hb0⟩;obtain⟨hc0,hf0⟩:=yx hb0;have hz0:=blt hb0)|(go_at_call_of 101 (s.extract 18 s.size);refine(M1 _).mono ?_;rintro ee u1 ⟨rfl,hb1⟩;obtain⟨hc1,hf1⟩:=yx hb1;have hz1:=blt hb1)|(go_at_call_of 103 (s.extract 14 18);refine(I0 _).mono ?_;rintro ee u2 ⟨rfl,hu⟩;rw[hu];clear hu u2)|(go_at_call_of 103 (s.extract 24 28);refine(I1 _).mono ?_;rintro ee u3 ⟨rfl,hu⟩;rw[hu];clear hu u3))
 have hB0:gm (w.heap.size+1) (w.alloc (.cells zA_ 115)) u0:=(R9 _ _).drew.trans (hb0.mono (Oo _ _))
 have hB1:=hB0.trans (hb1.mono (mo hB0))
 have hr:u1.heap[w.heap.size]?=some (.cells zA_ 115 (0,0)):=(hB1.block _ (by omega)).trans (G8 w _)
 have HB:Hid (gm w.heap.size w u1):=gu (((R9 _ w).alloc (ai _) _).trans (hB1.mono (by omega)))
 obtain⟨U,hU⟩:∃U,U=(((((((((((((((u1.setCell (a_ w.heap.size 0) (Vb Ve x)).setCell (a_ w.heap.size 1) (Vb Vd a.toNat)).setCell (a_ w.heap.size 2) (Vb Vd b.toNat)).setCell (a_ w.heap.size 3) (Vb Vd c.toNat)).setCell (a_ w.heap.size 4) (Vb Vd d.toNat)).setCell (a_ w.heap.size 5) (Vb Vd e.toNat)).setCell (a_ w.heap.size 6) (Vb Vd f.toNat)).setCell (a_ w.heap.size 7) (Vb Vf y)).setCell (a_ w.heap.size 8) (Vb Vd a'.toNat)).setCell (a_ w.heap.size 9) (Vb Vd b'.toNat)).setCell (a_ w.heap.size 10) (Vb Vd c'.toNat)).setCell (a_ w.heap.size 11) (Vb Vd d'.toNat)).setCell (a_ w.heap.size 12) (Vb Vd e'.toNat)).setCell (a_ w.heap.size 13) (Vb Vd f'.toNat)).setCell (a_ w.heap.size 14) (Vb Vf v)):=⟨_,rfl⟩
 have hu:U.heap[w.heap.size]?=some (.cells (rA x a.toNat b.toNat c.toNat d.toNat e.toNat f.toNat y a'.toNat b'.toNat c'.toNat d'.toNat e'.toNat f'.toNat v) 115 (0,0)):=by
  rw[hU]
  exact QE.xh _ _ _ _ _ _ _ _ _ _ _ _ _ _ _ _ _ _ _ _ _ _ _ _ _ _ _ _ _ _ hr
 have HBU:Hid (gm w.heap.size w U):=by
  show gm w.heap.size w U
  rw[hU]
  iterate 15 refine gP.iP ?_
  exact HB
 have q0:U.cell? (a_ w.heap.size 0)=some (Vb Ve x):=gP.gD hu rfl
 have q1:U.cell? (a_ w.heap.size 1)=some (Vb Vd a.toNat):=gP.gD hu rfl
 have q2:U.cell? (a_ w.heap.size 2)=some (Vb Vd b.toNat):=gP.gD hu rfl
 have q3:U.cell? (a_ w.heap.size 3)=some (Vb Vd c.toNat):=gP.gD hu rfl
 have q4:U.cell? (a_ w.heap.size 4)=some (Vb Vd d.toNat):=gP.gD hu rfl
 have q5:U.cell? (a_ w.heap.size 5)=some (Vb Vd e.toNat):=gP.gD hu rfl
 have q6:U.cell? (a_ w.heap.size 6)=some (Vb Vd f.toNat):=gP.gD hu rfl
 have q7:U.cell? (a_ w.heap.size 7)=some (Vb Vf y):=gP.gD hu rfl
 have q8:U.cell? (a_ w.heap.size 8)=some (Vb Vd a'.toNat):=gP.gD hu rfl
 have q9:U.cell? (a_ w.heap.size 9)=some (Vb Vd b'.toNat):=gP.gD hu rfl
 have q10:U.cell? (a_ w.heap.size 10)=some (Vb Vd c'.toNat):=gP.gD hu rfl
 have q11:U.cell? (a_ w.heap.size 11)=some (Vb Vd d'.toNat):=gP.gD hu rfl
 have q12:U.cell? (a_ w.heap.size 12)=some (Vb Vd e'.toNat):=gP.gD hu rfl
 have q13:U.cell? (a_ w.heap.size 13)=some (Vb Vd f'.toNat):=gP.gD hu rfl
 have q14:U.cell? (a_ w.heap.size 14)=some (Vb Vf v):=gP.gD hu rfl
 rw[<-hU]
 clear hU hu hr hB0 hB1 hb0 hb1 hc0 hf0 hz0 hc1 hf1 hz1 M0 M1 I0 I1 O1
 go_wp2
 exact Vl (v:=.tuple #[.agg (rA x a.toNat b.toNat c.toNat d.toNat e.toNat f.toNat y a'.toNat b'.toNat c'.toNat d'.toNat e'.toNat f'.toNat v),Vb Vg 0]) (by simp[results,results66,go_sem,q0,q1,q2,q3,q4,q5,q6,q7,q8,q9,q10,q11,q12,q13,q14]) rfl ⟨rfl,HBU⟩
end Rr
namespace Dh
open Bs
theorem FR{a b:List UInt8}{x:Bool}(h:(a !=b)=x):(a==b)= !x:=by rw[<-h,bne,Bool.not_not]
theorem zx(s:ByteArray)(x0:UInt8)(w:fV)(hz:240<=s.size)(hm:s.size<=1048576)(i0:∀u,(Instr.index 9 (.string s) (Vb Vg 0)).run Vh u=.ok (Vb Vd x0.toNat) u)
  (h:(((x0.toNat:Int)==1||(x0.toNat:Int)==2)=false)∨((((x0.toNat:Int)==1||(x0.toNat:Int)==2)=true)/\(((s.extract 1 3).toList !=[1,6])=true∨(((s.extract 1 3).toList !=[1,6])=false/\((s.extract 236 240).toList !=[99,130,83,99])=true)))):
  f_ Vh 70 #[.string s] w fun ee w'=>ee=.returned (.tuple #[.agg zD_,Vb Vg 2])/\gm w.heap.size w w':=by
 have k3:(3:Int)<=(s.size:Int):=by omega
 have k236:(236:Int)<=(s.size:Int):=by omega
 have k240:(240:Int)<=(s.size:Int):=by omega
 have k240': ¬(s.size:Int)<240:=by omega
 have hmx:(s.size:Int)<=9223372036854775807:=by omega
 have hc:(((x0.toNat:Int)!=1)=true/\((x0.toNat:Int)!=2)=true)∨((((x0.toNat:Int)!=1)=false)/\(((s.extract 1 3).toList !=[1,6])=true∨(((s.extract 1 3).toList !=[1,6])=false/\((s.extract 236 240).toList !=[99,130,83,99])=true)))∨((((x0.toNat:Int)!=1)=true/\((x0.toNat:Int)!=2)=false)/\(((s.extract 1 3).toList !=[1,6])=true∨(((s.extract 1 3).toList !=[1,6])=false/\((s.extract 236 240).toList !=[99,130,83,99])=true))):=by
  rcases h with h|⟨h,h2⟩
  ·rw[Bool.or_eq_false_iff]at h
   exact au ⟨by rw[bne,h.1];rfl,by rw[bne,h.2];rfl⟩
  ·rw[Bool.or_eq_true]at h
   by_cases q1:((x0.toNat:Int)==1)=true
   ·exact aA (au ⟨by rw[bne,q1];rfl,h2⟩)
   ·refine aA (aA ⟨⟨by rw[bne,Bool.eq_false_iff.2 q1];rfl,?_⟩,h2⟩)
    rcases h with q|q
    ·exact absurd q q1
    ·rw[bne,q];rfl
 clear h hz hm
 rcases hc with⟨h1,h2⟩|⟨h1,h3|⟨h3,h4⟩⟩|⟨⟨h1,h2⟩,h3|⟨h3,h4⟩⟩
 all_goals
  try have h3':=FR h3
  try have h4':=FR h4
  go_enter func70,ntmps70
  go_wp2
  exact Vl (v:=.tuple #[.agg zD_,Vb Vg 2]) (by simp[results,bi,go_sem]) rfl ⟨rfl,(R9 _ _).alloc (ai _) _⟩
end Dh
namespace RB.TR
open Bs Rd gP
theorem Qh(s:ByteArray)(hs:s.size<14)(u:fV)(B:Nat)(h:iL u B s.data.toList):
  f_ Vh 139 #[p_ B] u fun ee w'=>ee=.panicked (iH 1)/\u.grownBy w' (some B):=mJ B _ u h (by rw[jc];exact hs)
theorem fourteen(l:List UInt8)(h:14<=l.length):∃a b c d e f a' b' c' d' e' f' t t' r,l=a::b::c::d::e::f::a'::b'::c'::d'::e'::f'::t::t'::r:=by
 match l,h with
 |a::b::c::d::e::f::a'::b'::c'::d'::e'::f'::t::t'::r,_=>exact⟨a,b,c,d,e,f,a',b',c',d',e',f',t,t',r,rfl⟩
theorem ve(s:ByteArray)(hs:s.size<=262144):∃a0 a1 a2 a3 a4 a5 a6 a7 a8 a9 a10 a11 ty ld k,(∀u,f_ Vh 98 #[.string s] u fun e w'=>e=.returned (.tuple #[.agg (rE a0 a1 a2 a3 a4 a5 a6 a7 a8 a9 a10 a11 ty ld),Vb Vg k])/\gm u.heap.size u w')/\(∀u,f_ Vh 65 #[.string s] u fun e w'=>e=.returned (.tuple #[.agg (rE a0 a1 a2 a3 a4 a5 a6 a7 a8 a9 a10 a11 ty ld),Vb Vg k])/\gm u.heap.size u w')/\ld.size<=s.size:=by
 by_cases h14:s.size<14
 ·refine⟨0,0,0,0,0,0,0,0,0,0,0,0,0,⟨#[]⟩,1,(fun u=>iU s 0 0 0 0 0 0 0 0 0 0 0 0 0 ⟨#[]⟩ 1 u (fun u=>je s 1 u (Qh s h14))),(fun u=>Rr.mJ s u h14),aN _⟩
 ·have hl:=jc s
  have heta:=mQ s
  obtain⟨a,b,c,d,e,f,a',b',c',d',e',f',t,t',r,hlist⟩:=fourteen s.data.toList (by omega)
  have hr:r.length<=1099511627000:=by rw[hlist]at hl;simp only[aj]at hl;omega
  have hsr:s=⟨(a::b::c::d::e::f::a'::b'::c'::d'::e'::f'::t::t'::r).toArray⟩:=by rw[<-hlist,heta]
  cases ht:og.o9 (256*(t.toNat:Int)+(t'.toNat:Int))with
  |false=>
   refine⟨0,0,0,0,0,0,0,0,0,0,0,0,0,⟨#[]⟩,3,(fun u=>iU s 0 0 0 0 0 0 0 0 0 0 0 0 0 ⟨#[]⟩ 3 u (fun u=>je s 3 u (fun u B h=> ?_))),(fun u=> ?_),aN _⟩
   ·rw[hlist]at h
    exact uU B a b c d e f a' b' c' d' e' f' t t' r u h hr ht
   ·rw[hsr]
    exact Rr.uU a b c d e f a' b' c' d' e' f' t t' r u hr ht
  |true=>
   cases hl':og.ko ⟨r.toArray⟩with
   |false=>
    refine⟨0,0,0,0,0,0,0,0,0,0,0,0,0,⟨#[]⟩,7,(fun u=>iU s 0 0 0 0 0 0 0 0 0 0 0 0 0 ⟨#[]⟩ 7 u (fun u=>je s 7 u (fun u B h=> ?_))),(fun u=> ?_),aN _⟩
    ·rw[hlist]at h
     exact vF B a b c d e f a' b' c' d' e' f' t t' r u h hr ht hl'
    ·rw[hsr]
     exact Rr.vF a b c d e f a' b' c' d' e' f' t t' r u hr ht hl'
   |true=>
    refine⟨a.toNat,b.toNat,c.toNat,d.toNat,e.toNat,f.toNat,a'.toNat,b'.toNat,c'.toNat,d'.toNat,e'.toNat,f'.toNat,(256*(t.toNat:Int)+(t'.toNat:Int)),⟨r.toArray⟩,0,(fun u=>iU s a.toNat b.toNat c.toNat d.toNat e.toNat f.toNat a'.toNat b'.toNat c'.toNat d'.toNat e'.toNat f'.toNat (256*(t.toNat:Int)+(t'.toNat:Int)) ⟨r.toArray⟩ 0 u (fun u=>nK s a.toNat b.toNat c.toNat d.toNat e.toNat f.toNat a'.toNat b'.toNat c'.toNat d'.toNat e'.toNat f'.toNat (256*(t.toNat:Int)+(t'.toNat:Int)) ⟨r.toArray⟩ u (fun u B h=> ?_))),(fun u=> ?_),by rw[hsr];simp[ByteArray.size];omega⟩
    ·rw[hlist]at h
     exact Ad B a b c d e f a' b' c' d' e' f' t t' r u h hr ht hl'
    ·rw[hsr]
     exact Rr.Ad a b c d e f a' b' c' d' e' f' t t' r u hr ht hl'
end RB.TR
namespace RB.D7
open Bs Rd QE
theorem many(l:List UInt8)(h:28<=l.length):∃h1 h2 h3 h4 h5 h6 o o' a b c d e f i1 i2 i3 i4 a' b' c' d' e' f' j1 j2 j3 j4 r,l=h1::h2::h3::h4::h5::h6::o::o'::a::b::c::d::e::f::i1::i2::i3::i4::a'::b'::c'::d'::e'::f'::j1::j2::j3::j4::r:=by
 obtain⟨h1,h2,h3,h4,h5,h6,l1,rfl⟩:=gP.sixth l (by omega)
 simp only[aj]at h
 obtain⟨o,o',a,b,c,d,l2,rfl⟩:=gP.sixth l1 (by omega)
 simp only[aj]at h
 obtain⟨e,f,i1,i2,i3,i4,l3,rfl⟩:=gP.sixth l2 (by omega)
 simp only[aj]at h
 obtain⟨a',b',c',d',e',f',l4,rfl⟩:=gP.sixth l3 (by omega)
 simp only[aj]at h
 obtain⟨j1,j2,l5,rfl⟩:=gP.second l4 (by omega)
 simp only[aj]at h
 obtain⟨j3,j4,r,rfl⟩:=gP.second l5 (by omega)
 exact⟨h1,h2,h3,h4,h5,h6,o,o',a,b,c,d,e,f,i1,i2,i3,i4,a',b',c',d',e',f',j1,j2,j3,j4,r,rfl⟩
theorem zG(s:ByteArray)(hm:s.size<=maxLen):∃op f0 f1 f2 f3 f4 f5 fip t0 t1 t2 t3 t4 t5 tip k,(∀u,f_ Vh 167 #[.string s] u fun e w'=>e=.returned (.tuple #[.agg (rA op f0 f1 f2 f3 f4 f5 fip t0 t1 t2 t3 t4 t5 tip),Vb Vg k])/\gm u.heap.size u w')/\(∀u,f_ Vh 66 #[.string s] u fun e w'=>e=.returned (.tuple #[.agg (rA op f0 f1 f2 f3 f4 f5 fip t0 t1 t2 t3 t4 t5 tip),Vb Vg k])/\gm u.heap.size u w'):=by
 have hl:=jc s
 by_cases h28:s.size<28
 ·refine⟨0,0,0,0,0,0,0,0,0,0,0,0,0,0,0,1,(fun u=>iU s 0 0 0 0 0 0 0 0 0 0 0 0 0 0 0 1 u (fun u=>je s 1 u (fun u B h=>xH B _ u h (by omega)))),(fun u=>Rr.xH s u h28)⟩
 ·have heta:=mQ s
  obtain⟨h1,h2,h3,h4,h5,h6,o,o',a,b,c,d,e,f,i1,i2,i3,i4,a',b',c',d',e',f',j1,j2,j3,j4,r,hlist⟩:=many s.data.toList (by omega)
  have hml:(h1::h2::h3::h4::h5::h6::o::o'::a::b::c::d::e::f::i1::i2::i3::i4::a'::b'::c'::d'::e'::f'::j1::j2::j3::j4::r).length<=maxLen:=by rw[<-hlist,hl];exact hm
  have hr:r.length+28<=9223372036854775807:=by simp only[aj,maxLen]at hml;omega
  have hsr:s=⟨(h1::h2::h3::h4::h5::h6::o::o'::a::b::c::d::e::f::i1::i2::i3::i4::a'::b'::c'::d'::e'::f'::j1::j2::j3::j4::r).toArray⟩:=by rw[<-hlist,heta]
  cases hh:nC h1 h2 h3 h4 h5 h6 with
  |false=>
   refine⟨0,0,0,0,0,0,0,0,0,0,0,0,0,0,0,2,(fun u=>iU s 0 0 0 0 0 0 0 0 0 0 0 0 0 0 0 2 u (fun u=>je s 2 u (fun u B h=> ?_))),(fun u=> ?_)⟩
   ·rw[hlist]at h
    exact Ah B h1 h2 h3 h4 h5 h6 o o' a b c d e f i1 i2 i3 i4 a' b' c' d' e' f' j1 j2 j3 j4 r u h hml hh
   ·rw[hsr]
    exact Rr.Ah h1 h2 h3 h4 h5 h6 o o' a b c d e f i1 i2 i3 i4 a' b' c' d' e' f' j1 j2 j3 j4 r u hr hh
  |true=>
   cases ho:(256*(o.toNat:Int)+(o'.toNat:Int)==1||256*(o.toNat:Int)+(o'.toNat:Int)==2)with
   |false=>
    have hne: ¬(256*(o.toNat:Int)+(o'.toNat:Int)=1)/\ ¬(256*(o.toNat:Int)+(o'.toNat:Int)=2):=by simpa using ho
    refine⟨0,0,0,0,0,0,0,0,0,0,0,0,0,0,0,2,(fun u=>iU s 0 0 0 0 0 0 0 0 0 0 0 0 0 0 0 2 u (fun u=>je s 2 u (fun u B h=> ?_))),(fun u=> ?_)⟩
    ·rw[hlist]at h
     exact Ri B h1 h2 h3 h4 h5 h6 o o' a b c d e f i1 i2 i3 i4 a' b' c' d' e' f' j1 j2 j3 j4 r u h hml hh ho
    ·rw[hsr]
     by_cases h0:256*(o.toNat:Int)+(o'.toNat:Int)<1
     ·exact Rr.OQ h1 h2 h3 h4 h5 h6 o o' a b c d e f i1 i2 i3 i4 a' b' c' d' e' f' j1 j2 j3 j4 r u hr hh h0
     ·exact Rr.OP h1 h2 h3 h4 h5 h6 o o' a b c d e f i1 i2 i3 i4 a' b' c' d' e' f' j1 j2 j3 j4 r u hr hh (by omega)
   |true=>
    have hne:(256*(o.toNat:Int)+(o'.toNat:Int)=1)∨(256*(o.toNat:Int)+(o'.toNat:Int)=2):=by simpa using ho
    refine⟨(256*(o.toNat:Int)+(o'.toNat:Int)),a.toNat,b.toNat,c.toNat,d.toNat,e.toNat,f.toNat,(16777216*(i1.toNat:Int)+65536*(i2.toNat:Int)+256*(i3.toNat:Int)+(i4.toNat:Int)),a'.toNat,b'.toNat,c'.toNat,d'.toNat,e'.toNat,f'.toNat,(16777216*(j1.toNat:Int)+65536*(j2.toNat:Int)+256*(j3.toNat:Int)+(j4.toNat:Int)),0,(fun u=>iU s (256*(o.toNat:Int)+(o'.toNat:Int)) a.toNat b.toNat c.toNat d.toNat e.toNat f.toNat (16777216*(i1.toNat:Int)+65536*(i2.toNat:Int)+256*(i3.toNat:Int)+(i4.toNat:Int)) a'.toNat b'.toNat c'.toNat d'.toNat e'.toNat f'.toNat (16777216*(j1.toNat:Int)+65536*(j2.toNat:Int)+256*(j3.toNat:Int)+(j4.toNat:Int)) 0 u (fun u=>nK s (256*(o.toNat:Int)+(o'.toNat:Int)) a.toNat b.toNat c.toNat d.toNat e.toNat f.toNat (16777216*(i1.toNat:Int)+65536*(i2.toNat:Int)+256*(i3.toNat:Int)+(i4.toNat:Int)) a'.toNat b'.toNat c'.toNat d'.toNat e'.toNat f'.toNat (16777216*(j1.toNat:Int)+65536*(j2.toNat:Int)+256*(j3.toNat:Int)+(j4.toNat:Int)) u (fun u B h=> ?_))),(fun u=> ?_)⟩
    ·rw[hlist]at h
     exact Ih B h1 h2 h3 h4 h5 h6 o o' a b c d e f i1 i2 i3 i4 a' b' c' d' e' f' j1 j2 j3 j4 r u h hml hh ho
    ·rw[hsr]
     exact Rr.Ih h1 h2 h3 h4 h5 h6 o o' a b c d e f i1 i2 i3 i4 a' b' c' d' e' f' j1 j2 j3 j4 r u hr hh (by omega) (by omega)
end RB.D7
namespace RB
open Bs Rd
theorem Qv(l:List UInt8)(i:Nat):0<=Lt.w4 l i/\Lt.w4 l i<=4294967295:=by
 have hb:∀j,0<=Lt.bt l j/\Lt.bt l j<=255:=fun j=>by
  unfold Lt.bt
  have:=(l.getD j 0).toNat_lt
  omega
 unfold Lt.w4
 have:=hb i;have:=hb (i+1);have:=hb (i+2);have:=hb (i+3)
 omega
theorem DF(s:ByteArray)(hm:s.size<=262144):∃id ttl pr fr ta ld k,(∀u,f_ Vh 173 #[.string s] u fun e w'=>e=.returned (.tuple #[.agg (rU id ttl pr fr ta ld),Vb Vg k])/\gm u.heap.size u w')/\(∀u,f_ Vh 68 #[.string s] u fun e w'=>e=.returned (.tuple #[.agg (rU id ttl pr fr ta ld),Vb Vg k])/\gm u.heap.size u w')/\(0<=fr/\fr<=4294967295)/\(0<=ta/\ta<=4294967295)/\ld.size<=s.size:=by
 refine⟨_,_,_,_,_,_,_,fun u=>Uy.zX s _ rfl u hm,fun u=>Ux.kz s _ rfl u hm,?_,?_,?_⟩
 ·unfold Lt.xX;split
  ·exact Qv _ _
  ·omega
 ·unfold Lt.xX;split
  ·exact Qv _ _
  ·omega
 ·unfold Lt.AA;split
  ·show(((s.data.toList.drop 20).take _).toArray).size<=s.data.size
   simp;omega
  ·exact aN _
theorem zQ(s:ByteArray)(fr ta:Int)(hm:s.size<=262144)(hf:0<=fr/\fr<=4294967295)(ho:0<=ta/\ta<=4294967295):∃f t ld k,(∀u,f_ Vh 174 (rB s fr ta) u fun e w'=>e=.returned (.tuple #[.agg (rG f t ld),Vb Vg k])/\gm u.heap.size u w')/\(∀u,f_ Vh 69 (rB s fr ta) u fun e w'=>e=.returned (.tuple #[.agg (rG f t ld),Vb Vg k])/\gm u.heap.size u w')/\ld.size<=s.size:=by
 refine⟨_,_,_,_,fun u=>Uv.zX s _ rfl fr ta u hm hf ho,fun u=>Uz.kz s _ rfl fr ta u hm hf ho,?_⟩
 unfold Ut.Ae;split
 ·show(((s.data.toList.drop 8).take _).toArray).size<=s.data.size
  simp;omega
 ·exact aN _
end RB
namespace RB.dh
open Bs Rd Dh
theorem iK{n:Nat}(l:List UInt8)(h:n+1<=l.length):∃a r,l=a::r/\n<=r.length:=by
 match l,h with
 |a::r,h=>exact⟨a,r,rfl,by simpa using h⟩
theorem Dv(n k:Nat)(l:List UInt8)(h:n+k<=l.length):∃(s:ByteArray) (r:List UInt8),l=s.data.toList++r/\s.size=n/\k<=r.length:=by
 refine⟨⟨(l.take n).toArray⟩,l.drop n,(bV n l).symm,?_,?_⟩
 ·show(l.take n).toArray.size=n
  simp;omega
 ·rw[aW];omega
theorem Gy(m host file:List UInt8):heavy (oW m host file)<=m.length+host.length+file.length:=by
 have hq0:heavy ([]:List Pc)=0:=rfl
 have hle:∀l:List Pc,l.length<=heavy l:=fun l=>by unfold heavy;omega
 unfold oW
 cases hp:pieces m with
 |none=>simp[hq0]
 |some ps=>
  have h1:=iQ _ m ps (ai _) hp
  simp only
  split
  ·unfold jZ
   have hf:∀(b:Bool) (x:List UInt8) (r:List Pc),(if b then pieces x else some [])=some r->heavy r<=x.length:=fun b x r h=>by
    cases b
    ·simp at h;subst h;omega
    ·exact iQ _ x r (ai _) (by simpa using h)
   cases ha:(if m_ (data ps 52)then pieces file else some [])with
   |none=>simp[hq0]
   |some a=>
    cases hb:(if yX (data ps 52)then pieces host else some [])with
    |none=>simp[hq0]
    |some b=>
     simp only[Option.bind_some]
     have q:=jd (drop ps 52++(a++b)) []
     rw[mM,mM]at q
     have q1:=uR 52 ps
     have q2:=hf _ _ _ ha
     have q3:=hf _ _ _ hb
     omega
  ·have q:=jd ps []
   omega
theorem vR(s:ByteArray)(k:Int)(hR:∀u B,iL u B s.data.toList->f_ Vh 252 #[p_ B] u fun ee w'=>ee=.panicked (iH k)/\u.grownBy w' (some B))(u:fV):
  f_ Vh 213 #[.string s] u fun ee w'=>ee=.returned (.tuple #[.agg zD_,Vb Vg k])/\gm u.heap.size u w':=
 Lp.Iu s k u (fun u=>Lp.je s k u (fun u' B hr _=>hR u' B hr))
theorem Ub(a b c d:UInt8):0<=(16777216*(a.toNat:Int)+65536*(b.toNat:Int)+256*(c.toNat:Int)+(d.toNat:Int))/\(16777216*(a.toNat:Int)+65536*(b.toNat:Int)+256*(c.toNat:Int)+(d.toNat:Int))<=4294967295:=by
 have h1:=a.toNat_lt
 have h2:=b.toNat_lt
 have h3:=c.toNat_lt
 have h4:=d.toNat_lt
 omega
def No(s:ByteArray):Prop:=∃k:Int,k≠0/\(∀u,f_ Vh 213 #[.string s] u fun e w'=>e=.returned (.tuple #[.agg zD_,Vb Vg k])/\gm u.heap.size u w')/\(∀u,f_ Vh 70 #[.string s] u fun e w'=>e=.returned (.tuple #[.agg zD_,Vb Vg k])/\gm u.heap.size u w')
def UB(s:ByteArray):Prop:=∃rep gF cl yo ne d0 d1 d2 d3 d4 d5,∃os:Dh.gU,(Dh.heavy os<=268435456/\(0<=yo/\yo<=4294967295)/\(0<=ne/\ne<=4294967295)/\∀c,Dh.data os c=(Dh.look os c).getD [])/\(∀u,f_ Vh 213 #[.string s] u fun ee w'=>Lp.IE os.length (Dh.gT os) u (fun sa sc=>.tuple #[.agg (rD rep gF cl yo ne d0 d1 d2 d3 d4 d5 sa os.length sc),Vb Vg 0]) ee w')/\(∀u,f_ Vh 70 #[.string s] u fun ee w'=>gm u.heap.size u w'/\∃v,ee=.returned (.tuple #[.agg #[.bool rep,Vb Vf gF,Vb Vf cl,Vb Vf yo,Vb Vf ne,Vb Vd d0,Vb Vd d1,Vb Vd d2,Vb Vd d3,Vb Vd d4,Vb Vd d5,v],Vb Vg 0])/\Dh.Has (u.heap.size+2) w' v os)
theorem Kr(s:ByteArray)(hm:s.size<=262144)(h240:240<=s.size):No s∨UB s:=by
 have hl0:239+1<=s.data.toList.length:=by rw[aF];exact h240
 obtain⟨l0,hl⟩:∃l,l=s.data.toList:=⟨_,rfl⟩
 rw[<-hl]at hl0
 obtain⟨a0,l1,q0,y100⟩:=iK (n:=239) l0 hl0
 obtain⟨a1,l2,q1,y101⟩:=iK (n:=238) l1 y100
 obtain⟨a2,l3,q2,y102⟩:=iK (n:=237) l2 y101
 obtain⟨a3,l4,q3,y103⟩:=iK (n:=236) l3 y102
 obtain⟨a4,l5,q4,y104⟩:=iK (n:=235) l4 y103
 obtain⟨a5,l6,q5,y105⟩:=iK (n:=234) l5 y104
 obtain⟨a6,l7,q6,y106⟩:=iK (n:=233) l6 y105
 obtain⟨a7,l8,q7,y107⟩:=iK (n:=232) l7 y106
 obtain⟨a8,l9,q8,y108⟩:=iK (n:=231) l8 y107
 obtain⟨a9,l10,q9,y109⟩:=iK (n:=230) l9 y108
 obtain⟨a10,l11,q10,y110⟩:=iK (n:=229) l10 y109
 obtain⟨a11,l12,q11,y111⟩:=iK (n:=228) l11 y110
 obtain⟨a12,l13,q12,y112⟩:=iK (n:=227) l12 y111
 obtain⟨a13,l14,q13,y113⟩:=iK (n:=226) l13 y112
 obtain⟨a14,l15,q14,y114⟩:=iK (n:=225) l14 y113
 obtain⟨a15,l16,q15,y115⟩:=iK (n:=224) l15 y114
 obtain⟨a16,l17,q16,y116⟩:=iK (n:=223) l16 y115
 obtain⟨a17,l18,q17,y117⟩:=iK (n:=222) l17 y116
 obtain⟨a18,l19,q18,y118⟩:=iK (n:=221) l18 y117
 obtain⟨a19,l20,q19,y119⟩:=iK (n:=220) l19 y118
 obtain⟨a20,l21,q20,y120⟩:=iK (n:=219) l20 y119
 obtain⟨a21,l22,q21,y121⟩:=iK (n:=218) l21 y120
 obtain⟨a22,l23,q22,y122⟩:=iK (n:=217) l22 y121
 obtain⟨a23,l24,q23,y123⟩:=iK (n:=216) l23 y122
 obtain⟨a24,l25,q24,y124⟩:=iK (n:=215) l24 y123
 obtain⟨a25,l26,q25,y125⟩:=iK (n:=214) l25 y124
 obtain⟨a26,l27,q26,y126⟩:=iK (n:=213) l26 y125
 obtain⟨a27,l28,q27,y127⟩:=iK (n:=212) l27 y126
 obtain⟨a28,l29,q28,y128⟩:=iK (n:=211) l28 y127
 obtain⟨a29,l30,q29,y129⟩:=iK (n:=210) l29 y128
 obtain⟨a30,l31,q30,y130⟩:=iK (n:=209) l30 y129
 obtain⟨a31,l32,q31,y131⟩:=iK (n:=208) l31 y130
 obtain⟨a32,l33,q32,y132⟩:=iK (n:=207) l32 y131
 obtain⟨a33,l34,q33,y133⟩:=iK (n:=206) l33 y132
 rw[q0,q1,q2,q3,q4,q5,q6,q7,q8,q9,q10,q11,q12,q13,q14,q15,q16,q17,q18,q19,q20,q21,q22,q23,q24,q25,q26,q27,q28,q29,q30,q31,q32,q33]at hl
 obtain⟨m,hmm⟩:∃m,m=l34:=⟨_,rfl⟩
 rw[<-hmm]at hl y133
 obtain⟨s1,m1,e1,z1,y1⟩:=Dv 10 196 m (by omega)
 obtain⟨sh,m2,e2,z2,y2⟩:=Dv 64 132 m1 (by omega)
 obtain⟨sf,m3,e3,z3,y3⟩:=Dv 128 4 m2 (by omega)
 obtain⟨sc,m4,e4,z4,y4⟩:=Dv 4 0 m3 (by omega)
 have hS:s.data.toList=a0::a1::a2::a3::a4::a5::a6::a7::a8::a9::a10::a11::a12::a13::a14::a15::a16::a17::a18::a19::a20::a21::a22::a23::a24::a25::a26::a27::a28::a29::a30::a31::a32::a33::m:=hl.symm
 obtain⟨hz,x13,x48,x1216,x1620,x2024,x28,x44,x108,x236,x240⟩:=parts a0 a1 a2 a3 a4 a5 a6 a7 a8 a9 a10 a11 a12 a13 a14 a15 a16 a17 a18 a19 a20 a21 a22 a23 a24 a25 a26 a27 a28 a29 a30 a31 a32 a33 m m1 m2 m3 m4 s s1 sh sf sc hS e1 e2 e3 e4 z1 z2 z3 z4
 have i0:∀u,(Instr.index 9 (.string s) (Vb Vg 0)).run Vh u=.ok (Vb Vd a0.toNat) u:=fun u=>qF s 0 a0 (by omega) (by rw[hS];rfl) 0 rfl u
 have hlen:(a0::a1::a2::a3::a4::a5::a6::a7::a8::a9::a10::a11::a12::a13::a14::a15::a16::a17::a18::a19::a20::a21::a22::a23::a24::a25::a26::a27::a28::a29::a30::a31::a32::a33::m).length<=1048576:=by rw[<-hS,aF];show s.size<=_;omega
 have hm4:m4.length<=1048000:=by omega
 cases hop:((a0.toNat:Int)==1||(a0.toNat:Int)==2)with
 |false=>
  exact au ⟨2,by decide,(vR s 2 (fun u B hr=>Qd B a0 a1 a2 a3 a4 a5 a6 a7 a8 a9 a10 a11 a12 a13 a14 a15 a16 a17 a18 a19 a20 a21 a22 a23 a24 a25 a26 a27 a28 a29 a30 a31 a32 a33 m m1 m2 m3 m4 s1 sh sf sc u (hS▸hr) hlen e1 e2 e3 e4 z1 z2 z3 z4 hop)),(fun u=>zx s a0 u h240 (by omega) i0 (au hop))⟩
 |true=>
  by_cases hcd:a1=1/\a2=6
  ·obtain⟨h1,h2⟩:=hcd
   subst h1
   subst h2
   by_cases hck:sc.data.toList=[99,130,83,99]
   ·obtain⟨rp,hrp⟩:∃rp,((a0.toNat:Int)==2)=rp:=⟨_,rfl⟩
    have HC:=fun u B (hr:iL u B s.data.toList)=>Ni B a0 a3 a4 a5 a6 a7 a8 a9 a10 a11 a12 a13 a14 a15 a16 a17 a18 a19 a20 a21 a22 a23 a24 a25 a26 a27 a28 a29 a30 a31 a32 a33 m m1 m2 m3 m4 s1 sh sf sc u (hS▸hr) hlen e1 e2 e3 e4 z1 z2 z3 z4 rp hop hrp hck
    have HR:∀u:fV,f_ Vh 70 #[.string s] u fun ee w'=>lV (nE m4 sh.data.toList sf.data.toList) (oW m4 sh.data.toList sf.data.toList) (u.heap.size+2) u (fun v=>.agg #[.bool rp,Vb Vf (16777216*(a4.toNat:Int)+65536*(a5.toNat:Int)+256*(a6.toNat:Int)+(a7.toNat:Int)),Vb Vf (16777216*(a12.toNat:Int)+65536*(a13.toNat:Int)+256*(a14.toNat:Int)+(a15.toNat:Int)),Vb Vf (16777216*(a16.toNat:Int)+65536*(a17.toNat:Int)+256*(a18.toNat:Int)+(a19.toNat:Int)),Vb Vf (16777216*(a20.toNat:Int)+65536*(a21.toNat:Int)+256*(a22.toNat:Int)+(a23.toNat:Int)),Vb Vd a28.toNat,Vb Vd a29.toNat,Vb Vd a30.toNat,Vb Vd a31.toNat,Vb Vd a32.toNat,Vb Vd a33.toNat,v]) ee w':=fun u=>by
     exact E8 a0 1 6 a3 a4 a5 a6 a7 a8 a9 a10 a11 a12 a13 a14 a15 a16 a17 a18 a19 a20 a21 a22 a23 a24 a25 a26 a27 a28 a29 a30 a31 a32 a33 m m1 m2 m3 m4 s s1 sh sf sc u hS hm4 e1 e2 e3 e4 z1 z2 z3 z4 rp _ rfl _ rfl _ rfl _ rfl (fun hq1=>by
      rw[Bool.or_eq_true]at hop
      rcases hop with q|q
      ·rw[bne,q]at hq1;cases hq1
      ·rw[bne,q];rfl) hrp rfl rfl hck
    have hll:=Gy m4 sh.data.toList sf.data.toList
    have hz5:sh.data.toList.length=64:=by rw[aF];exact z2
    have hz6:sf.data.toList.length=128:=by rw[aF];exact z3
    by_cases hk:nE m4 sh.data.toList sf.data.toList=0
    ·refine aA ⟨rp,(16777216*(a4.toNat:Int)+65536*(a5.toNat:Int)+256*(a6.toNat:Int)+(a7.toNat:Int)),(16777216*(a12.toNat:Int)+65536*(a13.toNat:Int)+256*(a14.toNat:Int)+(a15.toNat:Int)),(16777216*(a16.toNat:Int)+65536*(a17.toNat:Int)+256*(a18.toNat:Int)+(a19.toNat:Int)),(16777216*(a20.toNat:Int)+65536*(a21.toNat:Int)+256*(a22.toNat:Int)+(a23.toNat:Int)),a28.toNat,a29.toNat,a30.toNat,a31.toNat,a32.toNat,a33.toNat,oW m4 sh.data.toList sf.data.toList,⟨by omega,Ub a16 a17 a18 a19,Ub a20 a21 a22 a23,KX _ _ _⟩,fun u=> ?_,fun u=> ?_⟩
     ·refine Lp.Hl s rp (16777216*(a4.toNat:Int)+65536*(a5.toNat:Int)+256*(a6.toNat:Int)+(a7.toNat:Int)) (16777216*(a12.toNat:Int)+65536*(a13.toNat:Int)+256*(a14.toNat:Int)+(a15.toNat:Int)) (16777216*(a16.toNat:Int)+65536*(a17.toNat:Int)+256*(a18.toNat:Int)+(a19.toNat:Int)) (16777216*(a20.toNat:Int)+65536*(a21.toNat:Int)+256*(a22.toNat:Int)+(a23.toNat:Int)) a28.toNat a29.toNat a30.toNat a31.toNat a32.toNat a33.toNat _ _ u (fun u=>Lp.nK s rp (16777216*(a4.toNat:Int)+65536*(a5.toNat:Int)+256*(a6.toNat:Int)+(a7.toNat:Int)) (16777216*(a12.toNat:Int)+65536*(a13.toNat:Int)+256*(a14.toNat:Int)+(a15.toNat:Int)) (16777216*(a16.toNat:Int)+65536*(a17.toNat:Int)+256*(a18.toNat:Int)+(a19.toNat:Int)) (16777216*(a20.toNat:Int)+65536*(a21.toNat:Int)+256*(a22.toNat:Int)+(a23.toNat:Int)) a28.toNat a29.toNat a30.toNat a31.toNat a32.toNat a33.toNat _ _ u (fun u' B hr _=> ?_))
      refine(HC u' B hr).mono ?_
      rintro ee w' ⟨hg,hp⟩
      rw[ay hk]at hp
      exact⟨hp,hg⟩
     ·refine(HR u).mono ?_
      rintro ee w' ⟨hb,hp⟩
      rw[ay hk]at hp
      exact⟨hb,hp⟩
    ·refine au ⟨(nE m4 sh.data.toList sf.data.toList:Nat),by omega,vR s _ (fun u B hr=> ?_),fun u=> ?_⟩
     ·refine(HC u B hr).mono ?_
      rintro ee w' ⟨hg,hp⟩
      rw[ax hk]at hp
      exact⟨hp,hg⟩
     ·refine(HR u).mono ?_
      rintro ee w' ⟨hb,hp⟩
      rw[ax hk]at hp
      exact⟨hp,hb⟩
   ·exact au ⟨2,by decide,(vR s 2 (fun u B hr=>FT B a0 a3 a4 a5 a6 a7 a8 a9 a10 a11 a12 a13 a14 a15 a16 a17 a18 a19 a20 a21 a22 a23 a24 a25 a26 a27 a28 a29 a30 a31 a32 a33 m m1 m2 m3 m4 s1 sh sf sc u (hS▸hr) hlen e1 e2 e3 e4 z1 z2 z3 z4 _ hop rfl hck)),(fun u=>zx s a0 u h240 (by omega) i0 (aA ⟨hop,aA ⟨by rw[x13,Vw];rfl,by rw[x236,Vw];simpa using hck⟩⟩))⟩
  ·exact au ⟨2,by decide,(vR s 2 (fun u B hr=>Kc B a0 a1 a2 a3 a4 a5 a6 a7 a8 a9 a10 a11 a12 a13 a14 a15 a16 a17 a18 a19 a20 a21 a22 a23 a24 a25 a26 a27 a28 a29 a30 a31 a32 a33 m m1 m2 m3 m4 s1 sh sf sc u (hS▸hr) hlen e1 e2 e3 e4 z1 z2 z3 z4 _ hop rfl hcd)),(fun u=>zx s a0 u h240 (by omega) i0 (aA ⟨hop,au (by rw[x13,Vw];simpa using hcd)⟩))⟩
theorem xM(s:ByteArray)(hm:s.size<=262144):No s∨UB s:=by
 by_cases h240:s.size<240
 ·exact au ⟨1,by decide,vR s 1 (fun u B hr=>He B _ u hr (by rw[aF];exact h240)),fun u=>KS s u h240⟩
 ·exact Kr s hm (by omega)
end RB.dh
end Go.Proofs.YtbhbbeebncmaiaaGreatDoor
