import Derived.Test.YtbhbbeebncmaiaaGreatDoorMg25
set_option linter.all false
set_option maxHeartbeats 4000000
set_option maxRecDepth 10000
open Go.ChangeShapes Go.WideShapes Go.ChangeAt Go.RowKit
open Go renaming World → fV, Calls → f_
open Go.RowKit renaming Below → gm
open Go.Proofs.Tryz renaming prog → Vh
open Go.Value renaming int → Vb
open Go.IntKind renaming u8 → Vd, u16 → Ve, u32 → Vf, i64 → Vg
open Go.Proofs.Tryz
namespace Go.Proofs.YtbhbbeebncmaiaaGreatDoor
namespace Rr
open Bs Rd
theorem yx{W w1:fV}(hb:gm W.heap.size W w1):(∀b o,b<W.heap.size->w1.cell? (a_ b o)=W.cell? (a_ b o))/\(∀b o,b<W.heap.size->w1.frozen? (a_ b o)=W.frozen? (a_ b o)):=
 ⟨fun b o h=>hb.cell (p:=(a_ b o)) h,fun b o h=>hb.frozen (p:=(a_ b o)) h⟩
theorem blt{W w1:fV}(hb:gm W.heap.size W w1):∀n,n<W.heap.size->n<w1.heap.size:=fun _ h=>aQ h hb.size
theorem um{B E:Nat}{a u:fV}{v0 v1 v2 v3 v4 v5 v6 v7 v8 v9 v10 v11 v12 v13:Value}(h:gm B a u)(hE:B<=E):
  gm B a ((((((((((((((u.setCell (a_ E 0) v0).setCell (a_ E 1) v1).setCell (a_ E 2) v2).setCell (a_ E 3) v3).setCell (a_ E 4) v4).setCell (a_ E 5) v5).setCell (a_ E 6) v6).setCell (a_ E 7) v7).setCell (a_ E 8) v8).setCell (a_ E 9) v9).setCell (a_ E 10) v10).setCell (a_ E 11) v11).setCell (a_ E 12) v12).setCell (a_ E 13) v13):=
 (((((((((((((h.setCell hE v0).setCell hE v1).setCell hE v2).setCell hE v3).setCell hE v4).setCell hE v5).setCell hE v6).setCell hE v7).setCell hE v8).setCell hE v9).setCell hE v10).setCell hE v11).setCell hE v12).setCell hE v13
theorem mh{w:fV}{g:Nat}{t:TypeId}{v0 v1 v2 v3 v4 v5 v6 v7 v8 v9 v10 v11 v12 v13:Value}(h:w.heap[g]?=some (.cells #[v0,v1,v2,v3,v4,v5,v6,v7,v8,v9,v10,v11,v12,v13] t (0,0))):
  w.cell? (a_ g 0)=some v0/\w.cell? (a_ g 1)=some v1/\w.cell? (a_ g 2)=some v2/\w.cell? (a_ g 3)=some v3/\w.cell? (a_ g 4)=some v4/\w.cell? (a_ g 5)=some v5/\w.cell? (a_ g 6)=some v6/\w.cell? (a_ g 7)=some v7/\w.cell? (a_ g 8)=some v8/\w.cell? (a_ g 9)=some v9/\w.cell? (a_ g 10)=some v10/\w.cell? (a_ g 11)=some v11/\w.cell? (a_ g 12)=some v12/\w.cell? (a_ g 13)=some v13:=
 ⟨gP.gD h rfl,gP.gD h rfl,gP.gD h rfl,gP.gD h rfl,gP.gD h rfl,gP.gD h rfl,gP.gD h rfl,gP.gD h rfl,gP.gD h rfl,gP.gD h rfl,gP.gD h rfl,gP.gD h rfl,gP.gD h rfl,gP.gD h rfl⟩
theorem Oo(w:fV)(o:Obj):w.heap.size+1<=(w.alloc o).drew.heap.size:=by show _<=(w.alloc o).heap.size;simp
theorem mo{w u:fV}{o:Obj}(h:gm (w.heap.size+1) (w.alloc o) u):w.heap.size+1<=u.heap.size:=by have:=h.size;simpa using this
theorem mJ(s:ByteArray)(w:fV)(hs:s.size<14):
  f_ Vh 65 #[.string s] w fun ee w'=>ee=.returned (.tuple #[.agg zE_,Vb Vg 1])/\gm w.heap.size w w':=by
 go_enter func65,ntmps65
 go_wp2
 exact Vl (v:=.tuple #[.agg zE_,Vb Vg 1]) (by simp[results,results65,go_sem]) rfl ⟨rfl,(R9 _ _).alloc (ai _) _⟩
theorem R5(a b c d e f a' b' c' d' e' f' t t':UInt8)(l:List UInt8)(w:fV)(hs:l.length<=1099511627000)(Y:Array Value)(er:Int)
  (he:((og.o9 (256*(t.toNat:Int)+(t'.toNat:Int))=false/\Y=zE_/\er=3)∨(og.o9 (256*(t.toNat:Int)+(t'.toNat:Int))=true/\og.ko ⟨l.toArray⟩=false/\Y=zE_/\er=7))∨(og.o9 (256*(t.toNat:Int)+(t'.toNat:Int))=true/\og.ko ⟨l.toArray⟩=true/\Y=(rE a.toNat b.toNat c.toNat d.toNat e.toNat f.toNat a'.toNat b'.toNat c'.toNat d'.toNat e'.toNat f'.toNat (256*(t.toNat:Int)+(t'.toNat:Int)) ⟨l.toArray⟩)/\er=0)):
  f_ Vh 65 #[.string ⟨(a::b::c::d::e::f::a'::b'::c'::d'::e'::f'::t::t'::l).toArray⟩] w fun ee w'=>ee=.returned (.tuple #[.agg Y,Vb Vg er])/\gm w.heap.size w w':=by
 obtain⟨s,hS⟩:∃s:ByteArray,s=⟨(a::b::c::d::e::f::a'::b'::c'::d'::e'::f'::t::t'::l).toArray⟩:=⟨_,rfl⟩
 have hz:s.size=l.length+14:=by rw[hS,gL];simp
 have M0:Hid (∀u:fV,f_ Vh 101 #[.string s] u fun ee w'=>ee=.returned (.agg (rS a.toNat b.toNat c.toNat d.toNat e.toNat f.toNat))/\gm u.heap.size u w'):=gu (fun u=>by
  rw[hS];exact ou a b c d e f _ u (by simp only[aj];omega))
 have M1:Hid (∀u:fV,f_ Vh 101 #[.string (s.extract 6 s.size)] u fun ee w'=>ee=.returned (.agg (rS a'.toNat b'.toNat c'.toNat d'.toNat e'.toNat f'.toNat))/\gm u.heap.size u w'):=gu (fun u=>by
  rw[hS,jT];exact ou a' b' c' d' e' f' _ u (by simp only[aj];omega))
 have O1:Hid (∀u:fV,f_ Vh 102 #[.string (s.extract 12 14)] u fun ee w'=>ee=.returned (Vb Vg (256*(t.toNat:Int)+(t'.toNat:Int)))/\w'=u):=gu (fun u=>by
  have e1:s.extract 12 14=⟨#[t,t']⟩:=by rw[hS];apply aC;rw[az];apply aJ;simp
  rw[e1]
  have q:=iE ⟨#[t,t']⟩ u (show 2<=4 by omega)
  rw[show jI (⟨#[t,t']⟩:ByteArray).data.toList=256*(t.toNat:Int)+(t'.toNat:Int)from by simp[jI]]at q
  exact q)
 have e14:s.extract 14 s.size=⟨l.toArray⟩:=by rw[hS,jT];rfl
 rw[<-hS]
 obtain⟨x,hx⟩:∃x,x=256*(t.toNat:Int)+(t'.toNat:Int):=⟨_,rfl⟩
 have hx0:0<=x/\x<=65535:=by have h1:=t.toNat_lt;have h2:=t'.toNat_lt;omega
 obtain⟨hx1,hx2⟩:=hx0
 have hq:IntKind.u16.wrap x=x:=by rw[Vu];omega
 obtain⟨s2,hs2⟩:∃s2,s2=s.extract 6 s.size:=⟨_,rfl⟩
 rw[<-hx]at O1 he
 obtain⟨s3,hs3⟩:∃s3:ByteArray,s3=⟨l.toArray⟩:=⟨_,rfl⟩
 rw[<-hs3]at e14 he
 have h6:(6:Int)<=(s.size:Int):=by omega
 have h14:(14:Int)<=(s.size:Int):=by omega
 have hmx:(s.size:Int)<=4611686018427387904:=by omega
 have h14': ¬(s.size:Int)<14:=by omega
 have E14:=gu e14
 clear hs3 hS hx hs2 s2 hz e14
 go_enter func65,ntmps65
 go_wp2
 go_cut [4] (fun s4 wc=>∃E:Nat,s4=(p_ E)/\gm (w.heap.size+1) (w.alloc (.cells zE_ 111)) wc/\wc.cell? (a_ E 0)=some (Vb Vd a.toNat)/\wc.cell? (a_ E 1)=some (Vb Vd b.toNat)/\wc.cell? (a_ E 2)=some (Vb Vd c.toNat)/\wc.cell? (a_ E 3)=some (Vb Vd d.toNat)/\wc.cell? (a_ E 4)=some (Vb Vd e.toNat)/\wc.cell? (a_ E 5)=some (Vb Vd f.toNat)/\wc.cell? (a_ E 6)=some (Vb Vd a'.toNat)/\wc.cell? (a_ E 7)=some (Vb Vd b'.toNat)/\wc.cell? (a_ E 8)=some (Vb Vd c'.toNat)/\wc.cell? (a_ E 9)=some (Vb Vd d'.toNat)/\wc.cell? (a_ E 10)=some (Vb Vd e'.toNat)/\wc.cell? (a_ E 11)=some (Vb Vd f'.toNat)/\wc.cell? (a_ E 12)=some (Vb Ve x)/\wc.cell? (a_ E 13)=some (.string (s.extract 14 s.size)))
 case first=>
  go_region_held3 (fun _=>True) (trivial) (first|(go_at_call_of 101 (s.extract 6 s.size);refine(M1 _).mono ?_;rintro ee u1 ⟨rfl,hb1⟩;obtain⟨hc1,hf1⟩:=yx hb1;have hz1:=blt hb1;have hsz1:=hb1.size;(try simp at hsz1))|(go_at_call 101;refine(M0 _).mono ?_;rintro ee u0 ⟨rfl,hb0⟩;obtain⟨hc0,hf0⟩:=yx hb0;have hz0:=blt hb0;have hsz0:=hb0.size;(try simp at hsz0))|(go_at_call 102;refine(O1 _).mono ?_;rintro ee u2 ⟨rfl,hu⟩;rw[hu];clear hu u2))
  all_goals go_wp2
  all_goals go_meet
  ·have hB0:gm (w.heap.size+1) (w.alloc (.cells zE_ 111)) u0:=(R9 _ _).drew.trans (hb0.mono (Oo _ _))
   have hB1:=hB0.trans (hb1.mono (mo hB0))
   exact⟨_,rfl,hB1.alloc (mo hB1) _,mh (G8 u1 _)⟩
  ·have hB0:gm (w.heap.size+1) (w.alloc (.cells zE_ 111)) u0:=(R9 _ _).drew.trans (hb0.mono (Oo _ _))
   have hB1:=hB0.trans (hb1.mono (mo hB0))
   exact⟨_,rfl,hB1.alloc (mo hB1) _,mh (G8 u1 _)⟩
  ·have hB0:gm (w.heap.size+1) (w.alloc (.cells zE_ 111)) u0:=(R9 _ _).drew.trans (hb0.mono (Oo _ _))
   have hB1:=(hB0.alloc (mo hB0) (.cells zE_ 111)).trans (hb1.mono (mo (hB0.alloc (mo hB0) _)))
   have he:u1.heap[u0.heap.size]?=some (.cells zE_ 111 (0,0)):=(hb1.block _ (by simp)).trans (G8 u0 _)
   exact⟨_,rfl,um hB1 (mo hB0),mh (gP.kC _ _ _ _ _ _ _ _ _ _ _ _ _ _ _ _ _ _ _ _ _ _ _ _ _ _ _ _ he)⟩
  ·have hA:gm (w.heap.size+1) (w.alloc (.cells zE_ 111)) ((w.alloc (.cells zE_ 111)).alloc (.cells zE_ 111)):=(R9 _ _).alloc (by simp) _
   have hB0:=hA.drew.trans (hb0.mono (mo hA.drew))
   have hB1:=hB0.trans (hb1.mono (mo hB0))
   have he0:u0.heap[w.heap.size+1]?=some (.cells zE_ 111 (0,0)):=by
    have q:=G8 (w.alloc (.cells zE_ 111)) (.cells zE_ 111)
    rw[show(w.alloc (.cells zE_ 111)).heap.size=w.heap.size+1 by simp]at q
    exact(hb0.block _ (Vj q)).trans q
   have he:=(hb1.block _ (Vj he0)).trans he0
   exact⟨_,rfl,um hB1 (ai _),mh (gP.kC _ _ _ _ _ _ _ _ _ _ _ _ _ _ _ _ _ _ _ _ _ _ _ _ _ _ _ _ he)⟩
 case rest=>
  obtain⟨E,rfl,hB0,c0,c1,c2,c3,c4,c5,c6,c7,c8,c9,c10,c11,c12,c13⟩:=hcut
  rw[gB E14]at c13
  have hr:wc.heap[w.heap.size]?=some (.cells zE_ 111 (0,0)):=(hB0.block _ (by omega)).trans (G8 w _)
  have d0:wc.cell? (a_ w.heap.size 0)=some (Vb Vd 0):=gP.gD hr rfl
  have d1:wc.cell? (a_ w.heap.size 1)=some (Vb Vd 0):=gP.gD hr rfl
  have d2:wc.cell? (a_ w.heap.size 2)=some (Vb Vd 0):=gP.gD hr rfl
  have d3:wc.cell? (a_ w.heap.size 3)=some (Vb Vd 0):=gP.gD hr rfl
  have d4:wc.cell? (a_ w.heap.size 4)=some (Vb Vd 0):=gP.gD hr rfl
  have d5:wc.cell? (a_ w.heap.size 5)=some (Vb Vd 0):=gP.gD hr rfl
  have d6:wc.cell? (a_ w.heap.size 6)=some (Vb Vd 0):=gP.gD hr rfl
  have d7:wc.cell? (a_ w.heap.size 7)=some (Vb Vd 0):=gP.gD hr rfl
  have d8:wc.cell? (a_ w.heap.size 8)=some (Vb Vd 0):=gP.gD hr rfl
  have d9:wc.cell? (a_ w.heap.size 9)=some (Vb Vd 0):=gP.gD hr rfl
  have d10:wc.cell? (a_ w.heap.size 10)=some (Vb Vd 0):=gP.gD hr rfl
  have d11:wc.cell? (a_ w.heap.size 11)=some (Vb Vd 0):=gP.gD hr rfl
  have d12:wc.cell? (a_ w.heap.size 12)=some (Vb Ve 0):=gP.gD hr rfl
  have d13:wc.cell? (a_ w.heap.size 13)=some (.string ⟨#[]⟩):=gP.gD hr rfl
  have fr:=gP.gM hr
  have HB:Hid (gm w.heap.size w wc):=gu (((R9 _ w).alloc (ai _) _).trans (hB0.mono (by omega)))
  rcases he with(⟨ht,rfl,te⟩|⟨ht,hl,rfl,te⟩)|⟨ht,hl,rfl,te⟩
  rotate_left 2
  ·have ht1:1536<=x:=bQ ht
   have hl1:s3.size<=1500:=bQ hl
   clear ht hl
   obtain⟨U,hU⟩:∃U,U=((((((((((((((wc.setCell (a_ w.heap.size 0) (Vb Vd a.toNat)).setCell (a_ w.heap.size 1) (Vb Vd b.toNat)).setCell (a_ w.heap.size 2) (Vb Vd c.toNat)).setCell (a_ w.heap.size 3) (Vb Vd d.toNat)).setCell (a_ w.heap.size 4) (Vb Vd e.toNat)).setCell (a_ w.heap.size 5) (Vb Vd f.toNat)).setCell (a_ w.heap.size 6) (Vb Vd a'.toNat)).setCell (a_ w.heap.size 7) (Vb Vd b'.toNat)).setCell (a_ w.heap.size 8) (Vb Vd c'.toNat)).setCell (a_ w.heap.size 9) (Vb Vd d'.toNat)).setCell (a_ w.heap.size 10) (Vb Vd e'.toNat)).setCell (a_ w.heap.size 11) (Vb Vd f'.toNat)).setCell (a_ w.heap.size 12) (Vb Ve x)).setCell (a_ w.heap.size 13) (.string s3)):=⟨_,rfl⟩
   have hu:U.heap[w.heap.size]?=some (.cells (rE a.toNat b.toNat c.toNat d.toNat e.toNat f.toNat a'.toNat b'.toNat c'.toNat d'.toNat e'.toNat f'.toNat x s3) 111 (0,0)):=by
    rw[hU]
    exact gP.kC _ _ _ _ _ _ _ _ _ _ _ _ _ _ _ _ _ _ _ _ _ _ _ _ _ _ _ _ hr
   have HBU:Hid (gm w.heap.size w U):=by
    show gm w.heap.size w U
    rw[hU]
    iterate 14 refine gP.iP ?_
    exact HB
   have u0:U.cell? (a_ w.heap.size 0)=some (Vb Vd a.toNat):=gP.gD hu rfl
   have u1:U.cell? (a_ w.heap.size 1)=some (Vb Vd b.toNat):=gP.gD hu rfl
   have u2:U.cell? (a_ w.heap.size 2)=some (Vb Vd c.toNat):=gP.gD hu rfl
   have u3:U.cell? (a_ w.heap.size 3)=some (Vb Vd d.toNat):=gP.gD hu rfl
   have u4:U.cell? (a_ w.heap.size 4)=some (Vb Vd e.toNat):=gP.gD hu rfl
   have u5:U.cell? (a_ w.heap.size 5)=some (Vb Vd f.toNat):=gP.gD hu rfl
   have u6:U.cell? (a_ w.heap.size 6)=some (Vb Vd a'.toNat):=gP.gD hu rfl
   have u7:U.cell? (a_ w.heap.size 7)=some (Vb Vd b'.toNat):=gP.gD hu rfl
   have u8:U.cell? (a_ w.heap.size 8)=some (Vb Vd c'.toNat):=gP.gD hu rfl
   have u9:U.cell? (a_ w.heap.size 9)=some (Vb Vd d'.toNat):=gP.gD hu rfl
   have u10:U.cell? (a_ w.heap.size 10)=some (Vb Vd e'.toNat):=gP.gD hu rfl
   have u11:U.cell? (a_ w.heap.size 11)=some (Vb Vd f'.toNat):=gP.gD hu rfl
   have u12:U.cell? (a_ w.heap.size 12)=some (Vb Ve x):=gP.gD hu rfl
   have u13:U.cell? (a_ w.heap.size 13)=some (.string s3):=gP.gD hu rfl
   have HU:=gu hU
   clear hr hu hU hB0 E14 M0 M1 O1
   go_wp2
   rw[<-gB HU]
   exact Vl (v:=.tuple #[.agg (rE a.toNat b.toNat c.toNat d.toNat e.toNat f.toNat a'.toNat b'.toNat c'.toNat d'.toNat e'.toNat f'.toNat x s3),Vb Vg er]) (by simp[results,results65,go_sem,te,u0,u1,u2,u3,u4,u5,u6,u7,u8,u9,u10,u11,u12,u13]) rfl ⟨by first|rfl|rw[te],HBU⟩
  have ht1: ¬1536<=x:=fq ht
  clear ht
  rotate_left
  have ht1:1536<=x:=bQ ht
  have hl1: ¬s3.size<=1500:=fq hl
  clear ht hl
  all_goals
   obtain⟨U,hU⟩:∃U,U=((((((((((((((wc.setCell (a_ w.heap.size 0) (Vb Vd 0)).setCell (a_ w.heap.size 1) (Vb Vd 0)).setCell (a_ w.heap.size 2) (Vb Vd 0)).setCell (a_ w.heap.size 3) (Vb Vd 0)).setCell (a_ w.heap.size 4) (Vb Vd 0)).setCell (a_ w.heap.size 5) (Vb Vd 0)).setCell (a_ w.heap.size 6) (Vb Vd 0)).setCell (a_ w.heap.size 7) (Vb Vd 0)).setCell (a_ w.heap.size 8) (Vb Vd 0)).setCell (a_ w.heap.size 9) (Vb Vd 0)).setCell (a_ w.heap.size 10) (Vb Vd 0)).setCell (a_ w.heap.size 11) (Vb Vd 0)).setCell (a_ w.heap.size 12) (Vb Ve 0)).setCell (a_ w.heap.size 13) (.string ⟨#[]⟩)):=⟨_,rfl⟩
   have hu:U.heap[w.heap.size]?=some (.cells zE_ 111 (0,0)):=by
    rw[hU]
    exact gP.kC _ _ _ _ _ _ _ _ _ _ _ _ _ _ _ _ _ _ _ _ _ _ _ _ _ _ _ _ hr
   have HBU:Hid (gm w.heap.size w U):=by
    show gm w.heap.size w U
    rw[hU]
    iterate 14 refine gP.iP ?_
    exact HB
   have u0:U.cell? (a_ w.heap.size 0)=some (Vb Vd 0):=gP.gD hu rfl
   have u1:U.cell? (a_ w.heap.size 1)=some (Vb Vd 0):=gP.gD hu rfl
   have u2:U.cell? (a_ w.heap.size 2)=some (Vb Vd 0):=gP.gD hu rfl
   have u3:U.cell? (a_ w.heap.size 3)=some (Vb Vd 0):=gP.gD hu rfl
   have u4:U.cell? (a_ w.heap.size 4)=some (Vb Vd 0):=gP.gD hu rfl
   have u5:U.cell? (a_ w.heap.size 5)=some (Vb Vd 0):=gP.gD hu rfl
   have u6:U.cell? (a_ w.heap.size 6)=some (Vb Vd 0):=gP.gD hu rfl
   have u7:U.cell? (a_ w.heap.size 7)=some (Vb Vd 0):=gP.gD hu rfl
   have u8:U.cell? (a_ w.heap.size 8)=some (Vb Vd 0):=gP.gD hu rfl
   have u9:U.cell? (a_ w.heap.size 9)=some (Vb Vd 0):=gP.gD hu rfl
   have u10:U.cell? (a_ w.heap.size 10)=some (Vb Vd 0):=gP.gD hu rfl
   have u11:U.cell? (a_ w.heap.size 11)=some (Vb Vd 0):=gP.gD hu rfl
   have u12:U.cell? (a_ w.heap.size 12)=some (Vb Ve 0):=gP.gD hu rfl
   have u13:U.cell? (a_ w.heap.size 13)=some (.string ⟨#[]⟩):=gP.gD hu rfl
   have HU:=gu hU
   clear hr hu hU hB0 E14 M0 M1 O1
   go_wp2
   rw[<-gB HU]
   exact Vl (v:=.tuple #[.agg zE_,Vb Vg er]) (by simp[results,results65,go_sem,te,u0,u1,u2,u3,u4,u5,u6,u7,u8,u9,u10,u11,u12,u13]) rfl ⟨by first|rfl|rw[te],HBU⟩
section
variable(a b c d e f a' b' c' d' e' f' t t':UInt8) (l:List UInt8) (w:fV) (hs:l.length≤1099511627000)
include hs
theorem Ad(ht:og.o9 (256*(t.toNat:Int)+(t'.toNat:Int))=true)(hl:og.ko ⟨l.toArray⟩=true):f_ Vh 65 #[.string ⟨(a::b::c::d::e::f::a'::b'::c'::d'::e'::f'::t::t'::l).toArray⟩] w fun ee w'=>ee=.returned (.tuple #[.agg (rE a.toNat b.toNat c.toNat d.toNat e.toNat f.toNat a'.toNat b'.toNat c'.toNat d'.toNat e'.toNat f'.toNat (256*(t.toNat:Int)+(t'.toNat:Int)) ⟨l.toArray⟩),Vb Vg 0])/\gm w.heap.size w w':=R5 a b c d e f a' b' c' d' e' f' t t' l w hs _ _ (.inr ⟨ht,hl,rfl,rfl⟩)
theorem uU(ht:og.o9 (256*(t.toNat:Int)+(t'.toNat:Int))=false):f_ Vh 65 #[.string ⟨(a::b::c::d::e::f::a'::b'::c'::d'::e'::f'::t::t'::l).toArray⟩] w fun ee w'=>ee=.returned (.tuple #[.agg zE_,Vb Vg 3])/\gm w.heap.size w w':=R5 a b c d e f a' b' c' d' e' f' t t' l w hs _ _ (.inl (.inl ⟨ht,rfl,rfl⟩))
theorem vF(ht:og.o9 (256*(t.toNat:Int)+(t'.toNat:Int))=true)(hl:og.ko ⟨l.toArray⟩=false):f_ Vh 65 #[.string ⟨(a::b::c::d::e::f::a'::b'::c'::d'::e'::f'::t::t'::l).toArray⟩] w fun ee w'=>ee=.returned (.tuple #[.agg zE_,Vb Vg 7])/\gm w.heap.size w w':=R5 a b c d e f a' b' c' d' e' f' t t' l w hs _ _ (.inl (.inr ⟨ht,hl,rfl,rfl⟩))
end
end Rr
end Go.Proofs.YtbhbbeebncmaiaaGreatDoor
