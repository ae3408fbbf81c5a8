import Derived.Test.YtdgacidndknceaaGreatDoorMg21
set_option linter.all false
set_option maxHeartbeats 4000000
set_option maxRecDepth 10000
open Go.ChangeShapes Go.WideShapes Go.ChangeAt Go.RowKit
open Go renaming World → fV, Calls → f_
open Go.RowKit renaming Below → gm
open Go.Proofs.Tryz renaming prog → Vh
open Go.Value renaming int → Vb
open Go.IntKind renaming u8 → Vd, u16 → Ve, u32 → Vf, i64 → Vg
open Go.Proofs.Tryz
namespace Go.Proofs.YtdgacidndknceaaGreatDoor
namespace QE
open Bs Rd
def nC(a b c d e f:UInt8):Bool:=[a,b,c,d,e,f]==[0,1,8,0,6,4]
theorem Ai(a b c d e f:UInt8)(w:fV):
  f_ Vh 153 #[.string ⟨#[a,b,c,d,e,f]⟩] w fun ee w'=>ee=.returned (.bool (nC a b c d e f))/\w'=w:=by
 obtain⟨s,hS⟩:∃s:ByteArray,s=⟨#[a,b,c,d,e,f]⟩:=⟨_,rfl⟩
 have e1:(s.toList==[0,1,8,0,6,4])=nC a b c d e f:=by rw[hS,nC,Vw]
 rw[<-hS,<-e1]
 clear hS e1
 go_enter func153,ntmps153
 go_wp2
 go_ret
 exact⟨rfl,rfl⟩
theorem zD(B:Nat)(a b c d e f:UInt8)(l:List UInt8)(w:fV)(h:iL w B (a::b::c::d::e::f::l))(hs:(a::b::c::d::e::f::l).length<=maxLen):
  f_ Vh 152 #[p_ B] w fun ee w'=>ee=.returned (.string ⟨#[a,b,c,d,e,f]⟩)/\iL w' B l/\w.grownBy w' (some B):=by
 have HN:=M0 (pu B (a::b::c::d::e::f::l) 6 w h (by simp) hs)
 have HR:=M0 (h.set l)
 clear h hs
 go_enter func152,ntmps152
 go_wp2_with fail
 refine HN.mono ?_
 rintro ee w1 ⟨rfl,rfl⟩
 go_wp2
 go_ret
 exact⟨rfl,HR,mH _⟩
theorem Al(B:Nat)(a b c d e f:UInt8)(l:List UInt8)(w:fV)(h:iL w B (a::b::c::d::e::f::l))(hs:(a::b::c::d::e::f::l).length<=maxLen)(ht:nC a b c d e f=true):
  f_ Vh 100 #[p_ B,.func (.func 152) #[] #[],.func (.func 153) #[] #[],Vb Vg 2] w fun ee w'=>(∃v,ee=.returned v)/\iL w' B l/\w.grownBy w' (some B):=by
 have HN:=M0 (zD B a b c d e f l w h hs)
 have HT:=M0 ht
 have HI:=M0 (fun u=>Ai a b c d e f u)
 clear h hs ht
 go_enter func100,zA
 go_wp2_with fail
 refine HN.mono ?_
 rintro ee w1 ⟨rfl,h1,g1⟩
 have H1:=M0 h1
 have G1:=M0 g1
 clear h1 g1
 go_wp2_with fail
 refine(HI _).mono ?_
 rintro ee w2 ⟨rfl,rfl⟩
 rw[gB HT]
 go_wp2_with fail
 refine(oo _ _).mono ?_
 rintro _ w3 ⟨rfl,rfl⟩
 go_wp2
 go_ret
 exact⟨⟨_,rfl⟩,H1,G1⟩
theorem MV(B:Nat)(a b:UInt8)(l:List UInt8)(w:fV)(h:iL w B (a::b::l))(hs:(a::b::l).length<=maxLen)(ht:(256*(a.toNat:Int)+(b.toNat:Int)==1||256*(a.toNat:Int)+(b.toNat:Int)==2)=true):
  f_ Vh 97 #[p_ B,.func (.func 98) #[] #[],.func (.func 115) #[] #[],Vb Vg 2] w fun e w'=>e=.returned (Vb Ve (256*(a.toNat:Int)+(b.toNat:Int)))/\iL w' B l/\w.grownBy w' (some B):=by
 have HN:=M0 (jo B a b l w h hs)
 obtain⟨x,hx⟩:∃x,x=256*(a.toNat:Int)+(b.toNat:Int):=⟨_,rfl⟩
 rw[<-hx]at HN ht ⊢
 have HT:=M0 ht
 have HI:=M0 (fun u=>WM.oQ x u)
 clear h hx hs ht
 go_enter func97,ntmps97
 go_wp2_with fail
 refine HN.mono ?_
 rintro e w1 ⟨rfl,h1,g1⟩
 have H1:=M0 h1
 have G1:=M0 g1
 clear h1 g1
 go_wp2_with fail
 refine(HI _).mono ?_
 rintro e w2 ⟨rfl,rfl⟩
 rw[gB HT]
 go_wp2_with fail
 refine(oo _ _).mono ?_
 rintro _ w3 ⟨rfl,rfl⟩
 go_wp2
 go_ret
 exact⟨rfl,H1,G1⟩
end QE
namespace QE
open Bs Rd gP
theorem aA6{u:fV}{g:Nat}{t:TypeId}{b0 b1 b2 b3 b4 b5 b6 b7 b8 b9 b10 b11 b12 b13 b14:Value}(h:u.heap[g]?=some (.cells #[b0,b1,b2,b3,b4,b5,b6,b7,b8,b9,b10,b11,b12,b13,b14] t (0,0))):u.cell? (a_ g 0)=some b0/\u.cell? (a_ g 1)=some b1/\u.cell? (a_ g 2)=some b2/\u.cell? (a_ g 3)=some b3/\u.cell? (a_ g 4)=some b4/\u.cell? (a_ g 5)=some b5/\u.cell? (a_ g 6)=some b6/\u.cell? (a_ g 7)=some b7/\u.cell? (a_ g 8)=some b8/\u.cell? (a_ g 9)=some b9/\u.cell? (a_ g 10)=some b10/\u.cell? (a_ g 11)=some b11/\u.cell? (a_ g 12)=some b12/\u.cell? (a_ g 13)=some b13/\u.cell? (a_ g 14)=some b14:=by
 have q:=fun j=>dh u g j _ _ _ h
 exact⟨q 0,q 1,q 2,q 3,q 4,q 5,q 6,q 7,q 8,q 9,q 10,q 11,q 12,q 13,q 14⟩
theorem Ih(B:Nat)(h1 h2 h3 h4 h5 h6 o o' a b c d e f i1 i2 i3 i4 a' b' c' d' e' f' j1 j2 j3 j4:UInt8)(l:List UInt8)(w:fV)(h:iL w B (h1::h2::h3::h4::h5::h6::o::o'::a::b::c::d::e::f::i1::i2::i3::i4::a'::b'::c'::d'::e'::f'::j1::j2::j3::j4::l))(hs:(h1::h2::h3::h4::h5::h6::o::o'::a::b::c::d::e::f::i1::i2::i3::i4::a'::b'::c'::d'::e'::f'::j1::j2::j3::j4::l).length<=maxLen)(hh:nC h1 h2 h3 h4 h5 h6=true)(ho:(256*(o.toNat:Int)+(o'.toNat:Int)==1||256*(o.toNat:Int)+(o'.toNat:Int)==2)=true):
  f_ Vh 114 #[p_ B] w fun ee w'=>ee=.returned (.agg (rE (256*(o.toNat:Int)+(o'.toNat:Int)) a.toNat b.toNat c.toNat d.toNat e.toNat f.toNat (16777216*(i1.toNat:Int)+65536*(i2.toNat:Int)+256*(i3.toNat:Int)+(i4.toNat:Int)) a'.toNat b'.toNat c'.toNat d'.toNat e'.toNat f'.toNat (16777216*(j1.toNat:Int)+65536*(j2.toNat:Int)+256*(j3.toNat:Int)+(j4.toNat:Int))))/\w.grownBy w' (some B):=by
 have hB:=h.lt
 have hne0:w.heap.size≠B:=by omega
 have H0:=M0 (h.alloc (.cells zE_ 87))
 have G0:=M0 (gV (il w (some B)) (.cells zE_ 87))
 have R0:Hid ((w.alloc (.cells zE_ 87)).heap[w.heap.size]?=some (.cells zE_ 87 (0,0))):=G8 w _
 clear h
 have T1:=M0 (fun u hu=>Al B h1 h2 h3 h4 h5 h6 _ u hu hs hh)
 have T2:=M0 (fun u hu=>MV B o o' (a::b::c::d::e::f::i1::i2::i3::i4::a'::b'::c'::d'::e'::f'::j1::j2::j3::j4::l) u hu (by simp only[aj,maxLen]at hs ⊢;omega) ho)
 have T4:=M0 (fun u hu=>jg B i1 i2 i3 i4 (a'::b'::c'::d'::e'::f'::j1::j2::j3::j4::l) u hu (by simp only[aj,maxLen]at hs ⊢;omega))
 have T6:=M0 (fun u hu=>jg B j1 j2 j3 j4 l u hu (by simp only[aj,maxLen]at hs ⊢;omega))
 obtain⟨x,hx⟩:∃x,x=256*(o.toNat:Int)+(o'.toNat:Int):=⟨_,rfl⟩
 obtain⟨y,hy⟩:∃y,y=16777216*(i1.toNat:Int)+65536*(i2.toNat:Int)+256*(i3.toNat:Int)+(i4.toNat:Int):=⟨_,rfl⟩
 obtain⟨v,hv⟩:∃v,v=16777216*(j1.toNat:Int)+65536*(j2.toNat:Int)+256*(j3.toNat:Int)+(j4.toNat:Int):=⟨_,rfl⟩
 rw[<-hx]at T2 ⊢
 rw[<-hy]at T4 ⊢
 rw[<-hv]at T6 ⊢
 clear hh ho hx hy hv
 go_enter func114,ntmps114
 go_wp2_with fail
 refine(kQ _ _ _ _ H0 (by simp only[aj];omega)).mono ?_
 rintro ee wz ⟨rfl,rfl⟩
 go_wp2_with fail
 refine(T1 _ H0).mono ?_
 rintro ee w1 ⟨⟨vv,rfl⟩,k1,g1⟩
 have S1:=M0 (VS.make hB k1 (gH G0 g1) ((g1.block _ (Vj R0) (fun q=>hne0 (by simpa using q))).trans R0))
 have hlt0:=S1.lv
 have hneV:w1.heap.size≠B:=by omega
 clear k1 g1 H0 G0 R0
 go_wp2_with fail
 refine(T2 _ S1.D8).mono ?_
 rintro ee w2 ⟨rfl,k1,g1⟩
 have SM:=M0 (S1.next k1 g1)
 have S2:=M0 (SM.sets [(0,Vb Ve x)] (cs':=(rE x 0 0 0 0 0 0 0 0 0 0 0 0 0 0)) rfl)
 have x_0:=gP.gD SM.var (j:=0) rfl
 have f2:=SM.free.1
 clear k1 g1 SM S1
 go_wp2_with fail
 refine(tZ _ _ _ _ _ _ _ _ _ S2.D8 (by simp only[aj,maxLen]at hs ⊢;omega)).mono ?_
 rintro ee w3 ⟨rfl,k1,g1⟩
 have SM:=M0 (S2.next k1 g1)
 have S3:=M0 (SM.sets [(1,Vb Vd a.toNat),(2,Vb Vd b.toNat),(3,Vb Vd c.toNat),(4,Vb Vd d.toNat),(5,Vb Vd e.toNat),(6,Vb Vd f.toNat)] (cs':=(rE x a.toNat b.toNat c.toNat d.toNat e.toNat f.toNat 0 0 0 0 0 0 0 0)) rfl)
 clear x_0 f2
 have x_1:=gP.gD SM.var (j:=1) rfl
 have x_2:=gP.gD SM.var (j:=2) rfl
 have x_3:=gP.gD SM.var (j:=3) rfl
 have x_4:=gP.gD SM.var (j:=4) rfl
 have x_5:=gP.gD SM.var (j:=5) rfl
 have x_6:=gP.gD SM.var (j:=6) rfl
 have f3:=SM.free.1
 clear k1 g1 SM S2
 go_wp2_with fail
 refine(T4 _ S3.D8).mono ?_
 rintro ee w4 ⟨rfl,k1,g1⟩
 have SM:=M0 (S3.next k1 g1)
 have S4:=M0 (SM.sets [(7,Vb Vf y)] (cs':=(rE x a.toNat b.toNat c.toNat d.toNat e.toNat f.toNat y 0 0 0 0 0 0 0)) rfl)
 clear x_1 x_2 x_3 x_4 x_5 x_6 f3
 have x_7:=gP.gD SM.var (j:=7) rfl
 have f4:=SM.free.1
 clear k1 g1 SM S3
 go_wp2_with fail
 refine(tZ _ _ _ _ _ _ _ _ _ S4.D8 (by simp only[aj,maxLen]at hs ⊢;omega)).mono ?_
 rintro ee w5 ⟨rfl,k1,g1⟩
 have SM:=M0 (S4.next k1 g1)
 have S5:=M0 (SM.sets [(8,Vb Vd a'.toNat),(9,Vb Vd b'.toNat),(10,Vb Vd c'.toNat),(11,Vb Vd d'.toNat),(12,Vb Vd e'.toNat),(13,Vb Vd f'.toNat)] (cs':=(rE x a.toNat b.toNat c.toNat d.toNat e.toNat f.toNat y a'.toNat b'.toNat c'.toNat d'.toNat e'.toNat f'.toNat 0)) rfl)
 clear x_7 f4
 have x_8:=gP.gD SM.var (j:=8) rfl
 have x_9:=gP.gD SM.var (j:=9) rfl
 have x_10:=gP.gD SM.var (j:=10) rfl
 have x_11:=gP.gD SM.var (j:=11) rfl
 have x_12:=gP.gD SM.var (j:=12) rfl
 have x_13:=gP.gD SM.var (j:=13) rfl
 have f5:=SM.free.1
 clear k1 g1 SM S4
 go_wp2_with fail
 refine(T6 _ S5.D8).mono ?_
 rintro ee w6 ⟨rfl,k1,g1⟩
 clear x_8 x_9 x_10 x_11 x_12 x_13 f5
 have S6:=M0 (S5.next k1 g1)
 have HG:=M0 ((S6.set 14 (Vb Vf v)).done [(0,Vb Ve x),(1,Vb Vd a.toNat),(2,Vb Vd b.toNat),(3,Vb Vd c.toNat),(4,Vb Vd d.toNat),(5,Vb Vd e.toNat),(6,Vb Vd f.toNat),(7,Vb Vf y),(8,Vb Vd a'.toNat),(9,Vb Vd b'.toNat),(10,Vb Vd c'.toNat),(11,Vb Vd d'.toNat),(12,Vb Vd e'.toNat),(13,Vb Vd f'.toNat),(14,Vb Vf v)])
 obtain⟨c0,c1,c2,c3,c4,c5,c6,c7,c8,c9,c10,c11,c12,c13,c14⟩:=aA6 S6.var
 obtain⟨d0,d1,d2,d3,d4,d5,d6,d7,d8,d9,d10,d11,d12,d13,d14⟩:=aA6 S6.res
 obtain⟨f1,f2⟩:=S6.free
 clear k1 g1 S5 S6
 go_wp2
 refine Vl (v:=.agg (rE x a.toNat b.toNat c.toNat d.toNat e.toNat f.toNat y a'.toNat b'.toNat c'.toNat d'.toNat e'.toNat f'.toNat v)) (by simp[results,results114,go_sem,d0,d1,d2,d3,d4,d5,d6,d7,d8,d9,d10,d11,d12,d13,d14]) rfl ⟨rfl,HG⟩
end QE
namespace QE
open Bs Rd
open gP (gD gM gI jk iP iG jE)
theorem xh{w:fV}{g:Nat}{t:TypeId}(b0 b1 b2 b3 b4 b5 b6 b7 b8 b9 b10 b11 b12 b13 b14 v0 v1 v2 v3 v4 v5 v6 v7 v8 v9 v10 v11 v12 v13 v14:Value)(h:w.heap[g]?=some (.cells #[b0,b1,b2,b3,b4,b5,b6,b7,b8,b9,b10,b11,b12,b13,b14] t (0,0))):
  (((((((((((((((w.setCell (a_ g 0) v0).setCell (a_ g 1) v1).setCell (a_ g 2) v2).setCell (a_ g 3) v3).setCell (a_ g 4) v4).setCell (a_ g 5) v5).setCell (a_ g 6) v6).setCell (a_ g 7) v7).setCell (a_ g 8) v8).setCell (a_ g 9) v9).setCell (a_ g 10) v10).setCell (a_ g 11) v11).setCell (a_ g 12) v12).setCell (a_ g 13) v13).setCell (a_ g 14) v14).heap[g]?=some (.cells #[v0,v1,v2,v3,v4,v5,v6,v7,v8,v9,v10,v11,v12,v13,v14] t (0,0)):=by
 have q:=gI (gI (gI (gI (gI (gI (gI (gI (gI (gI (gI (gI (gI (gI (gI h 0 v0) 1 v1) 2 v2) 3 v3) 4 v4) 5 v5) 6 v6) 7 v7) 8 v8) 9 v9) 10 v10) 11 v11) 12 v12) 13 v13) 14 v14
 simpa only[ae,ah,af]using q
theorem kT(p:Addr)(w:fV):
  CallsD Vh 151 #[.pointer (some p)] .returning w fun e u' w'=>e=.returned (.tuple #[])/\u'=.returning/\w'=w:=by
 refine VE func151 rfl fun c₀ cs hu=> ?_
 apply VV
 apply VM
 simp[wpOpsS,go_sem,recoverD,hu,ntmps151,Exit.thenS]
 refine VP ?_
 change Code.wp _ _ _ {tmps:=#[.pointer (some p),.nilIface,.nilIface,undef,undef,undef,undef],defers:=[]} _
 go_wp2
 cases c₀
 simp_all[bodyPostS,results,results151]
theorem blocks{w w1 W:fV}{s:ByteArray}(g:W.grownBy w1 (some (w.heap.size+1+1)))(hW:W=((w.alloc (.cells zE_ 87)).alloc (.cells #[Vb Vg 0] 26)).alloc (.cells #[.string s] 166)):
  w1.heap[w.heap.size]?=some (.cells zE_ 87 (0,0))/\w1.heap[w.heap.size+1]?=some (.cells #[Vb Vg 0] 26 (0,0)):=by
 have z2:((w.alloc (.cells zE_ 87)).alloc (.cells #[Vb Vg 0] 26)).heap.size=w.heap.size+1+1:=by simp
 have z1:(w.alloc (.cells zE_ 87)).heap.size=w.heap.size+1:=by simp
 have e0:W.heap[w.heap.size]?=some (.cells zE_ 87 (0,0)):=by
  rw[hW,Vi _ _ _ (by omega),Vi _ _ _ (by omega)];exact G8 w _
 have e1:W.heap[w.heap.size+1]?=some (.cells #[Vb Vg 0] 26 (0,0)):=by
  rw[hW,Vi _ _ _ (by omega)]
  have q:=G8 (w.alloc (.cells zE_ 87)) (.cells #[Vb Vg 0] 26)
  rw[z1]at q
  exact q
 exact⟨(g.block _ (Vj e0) (fun q=>by simp at q;omega)).trans e0,(g.block _ (Vj e1) (fun q=>by simp at q)).trans e1⟩
theorem nK(s:ByteArray)(a0 a1 a2 a3 a4 a5 a6 a7 a8 a9 a10 a11 a12 a13 a14:Int)(w:fV)
  (hR:∀u B,iL u B s.data.toList->f_ Vh 114 #[p_ B] u fun ee w'=>ee=.returned (.agg (rE a0 a1 a2 a3 a4 a5 a6 a7 a8 a9 a10 a11 a12 a13 a14))/\u.grownBy w' (some B)):
  f_ Vh 113 #[.string s,.func (.func 114) #[] #[]] w fun ee w'=>ee=.returned (.tuple #[.agg (rE a0 a1 a2 a3 a4 a5 a6 a7 a8 a9 a10 a11 a12 a13 a14),Vb Vg 0])/\gm w.heap.size w w':=by
 have hmf:∀(fn:Fn) (first cap:Array Value) (w:fV),(Instr.makeFunc fn first cap).run Vh w=.ok (.func fn first cap) w:=fun _ _ _ _=>rfl
 have HR:=M0 hR
 clear hR
 go_enter_defers func113,ntmps113
 go_wp2_with fail
 refine(HR _ _ (iG _ _ s (by simp))).mono ?_
 rintro ee w1 ⟨rfl,g1⟩
 obtain⟨hr,he⟩:=blocks g1 rfl
 have d0:w1.cell? (a_ w.heap.size 0)=some (Vb Ve 0):=gD hr rfl
 have d1:w1.cell? (a_ w.heap.size 1)=some (Vb Vd 0):=gD hr rfl
 have d2:w1.cell? (a_ w.heap.size 2)=some (Vb Vd 0):=gD hr rfl
 have d3:w1.cell? (a_ w.heap.size 3)=some (Vb Vd 0):=gD hr rfl
 have d4:w1.cell? (a_ w.heap.size 4)=some (Vb Vd 0):=gD hr rfl
 have d5:w1.cell? (a_ w.heap.size 5)=some (Vb Vd 0):=gD hr rfl
 have d6:w1.cell? (a_ w.heap.size 6)=some (Vb Vd 0):=gD hr rfl
 have d7:w1.cell? (a_ w.heap.size 7)=some (Vb Vf 0):=gD hr rfl
 have d8:w1.cell? (a_ w.heap.size 8)=some (Vb Vd 0):=gD hr rfl
 have d9:w1.cell? (a_ w.heap.size 9)=some (Vb Vd 0):=gD hr rfl
 have d10:w1.cell? (a_ w.heap.size 10)=some (Vb Vd 0):=gD hr rfl
 have d11:w1.cell? (a_ w.heap.size 11)=some (Vb Vd 0):=gD hr rfl
 have d12:w1.cell? (a_ w.heap.size 12)=some (Vb Vd 0):=gD hr rfl
 have d13:w1.cell? (a_ w.heap.size 13)=some (Vb Vd 0):=gD hr rfl
 have d14:w1.cell? (a_ w.heap.size 14)=some (Vb Vf 0):=gD hr rfl
 have fr:=gM hr
 have hc:=Vm he
 have hf:=Vy he
 have HB:=M0 (jk g1 ((((R9 _ w).alloc (ai _) _).alloc (by simp) _).alloc (by simp;omega) _) (by omega))
 obtain⟨U,hU⟩:∃U,U=((((((((((((((((w1.setCell (a_ w.heap.size 0) (Vb Ve a0)).setCell (a_ w.heap.size 1) (Vb Vd a1)).setCell (a_ w.heap.size 2) (Vb Vd a2)).setCell (a_ w.heap.size 3) (Vb Vd a3)).setCell (a_ w.heap.size 4) (Vb Vd a4)).setCell (a_ w.heap.size 5) (Vb Vd a5)).setCell (a_ w.heap.size 6) (Vb Vd a6)).setCell (a_ w.heap.size 7) (Vb Vf a7)).setCell (a_ w.heap.size 8) (Vb Vd a8)).setCell (a_ w.heap.size 9) (Vb Vd a9)).setCell (a_ w.heap.size 10) (Vb Vd a10)).setCell (a_ w.heap.size 11) (Vb Vd a11)).setCell (a_ w.heap.size 12) (Vb Vd a12)).setCell (a_ w.heap.size 13) (Vb Vd a13)).setCell (a_ w.heap.size 14) (Vb Vf a14)).setCell (a_ (w.heap.size+1) 0) (Vb Vg 0)):=⟨_,rfl⟩
 have hu:U.heap[w.heap.size]?=some (.cells (rE a0 a1 a2 a3 a4 a5 a6 a7 a8 a9 a10 a11 a12 a13 a14) 87 (0,0)):=by
  rw[hU,R8 _ _ _ _ (by simp)]
  exact xh _ _ _ _ _ _ _ _ _ _ _ _ _ _ _ _ _ _ _ _ _ _ _ _ _ _ _ _ _ _ hr
 have hv:U.heap[w.heap.size+1]?=some (.cells #[Vb Vg 0] 26 (0,0)):=by
  rw[hU]
  refine VR (v:=Vb Vg 0) ?_
  rw[R8 _ _ _ _ (by simp),R8 _ _ _ _ (by simp),R8 _ _ _ _ (by simp),R8 _ _ _ _ (by simp),R8 _ _ _ _ (by simp),R8 _ _ _ _ (by simp),R8 _ _ _ _ (by simp),R8 _ _ _ _ (by simp),R8 _ _ _ _ (by simp),R8 _ _ _ _ (by simp),R8 _ _ _ _ (by simp),R8 _ _ _ _ (by simp),R8 _ _ _ _ (by simp),R8 _ _ _ _ (by simp),R8 _ _ _ _ (by simp)]
  exact he
 have HBU:Hid (gm w.heap.size w U):=by
  show gm w.heap.size w U
  rw[hU]
  refine VT ?_ (by simp) _
  iterate 15 refine iP ?_
  exact HB
 have u0:U.cell? (a_ w.heap.size 0)=some (Vb Ve a0):=gD hu rfl
 have u1:U.cell? (a_ w.heap.size 1)=some (Vb Vd a1):=gD hu rfl
 have u2:U.cell? (a_ w.heap.size 2)=some (Vb Vd a2):=gD hu rfl
 have u3:U.cell? (a_ w.heap.size 3)=some (Vb Vd a3):=gD hu rfl
 have u4:U.cell? (a_ w.heap.size 4)=some (Vb Vd a4):=gD hu rfl
 have u5:U.cell? (a_ w.heap.size 5)=some (Vb Vd a5):=gD hu rfl
 have u6:U.cell? (a_ w.heap.size 6)=some (Vb Vd a6):=gD hu rfl
 have u7:U.cell? (a_ w.heap.size 7)=some (Vb Vf a7):=gD hu rfl
 have u8:U.cell? (a_ w.heap.size 8)=some (Vb Vd a8):=gD hu rfl
 have u9:U.cell? (a_ w.heap.size 9)=some (Vb Vd a9):=gD hu rfl
 have u10:U.cell? (a_ w.heap.size 10)=some (Vb Vd a10):=gD hu rfl
 have u11:U.cell? (a_ w.heap.size 11)=some (Vb Vd a11):=gD hu rfl
 have u12:U.cell? (a_ w.heap.size 12)=some (Vb Vd a12):=gD hu rfl
 have u13:U.cell? (a_ w.heap.size 13)=some (Vb Vd a13):=gD hu rfl
 have u14:U.cell? (a_ w.heap.size 14)=some (Vb Vf a14):=gD hu rfl
 have uv:=Vm hv
 have HU:=M0 hU
 clear g1 hr he hu hv hU
 go_wp2
 rw[<-gB HU]
 clear HU d0 d1 d2 d3 d4 d5 d6 d7 d8 d9 d10 d11 d12 d13 d14 hc hf fr
 refine VF (f:=151) (args:=#[p_ (w.heap.size+1)]) (by simp) (by simp[go_sem]) ?_
 refine(kT (a_ (w.heap.size+1) 0) _).mono ?_
 rintro e u' w'' ⟨rfl,rfl,rfl⟩
 simp[Leaves,settle,results,results113,go_sem,u0,u1,u2,u3,u4,u5,u6,u7,u8,u9,u10,u11,u12,u13,u14,uv]
 exact HBU
end QE
namespace QE
open Bs Rd
open gP (gD gM gI iP)
theorem iU(s:ByteArray)(a0 a1 a2 a3 a4 a5 a6 a7 a8 a9 a10 a11 a12 a13 a14 k:Int)(w:fV)
  (hR:∀u:fV,f_ Vh 113 #[.string s,.func (.func 114) #[] #[]] u fun ee w'=>ee=.returned (.tuple #[.agg (rE a0 a1 a2 a3 a4 a5 a6 a7 a8 a9 a10 a11 a12 a13 a14),Vb Vg k])/\gm u.heap.size u w'):
  f_ Vh 63 #[.string s] w fun ee w'=>ee=.returned (.tuple #[.agg (rE a0 a1 a2 a3 a4 a5 a6 a7 a8 a9 a10 a11 a12 a13 a14),Vb Vg k])/\gm w.heap.size w w':=by
 have HR:=M0 hR
 clear hR
 go_enter func63,ntmps63
 go_wp2_with fail
 refine(HR _).mono ?_
 rintro ee w1 ⟨rfl,hb⟩
 have hr:w1.heap[w.heap.size]?=some (.cells zE_ 87 (0,0)):=(hb.block _ (by simp)).trans (G8 w _)
 have d0:w1.cell? (a_ w.heap.size 0)=some (Vb Ve 0):=gD hr rfl
 have d1:w1.cell? (a_ w.heap.size 1)=some (Vb Vd 0):=gD hr rfl
 have d2:w1.cell? (a_ w.heap.size 2)=some (Vb Vd 0):=gD hr rfl
 have d3:w1.cell? (a_ w.heap.size 3)=some (Vb Vd 0):=gD hr rfl
 have d4:w1.cell? (a_ w.heap.size 4)=some (Vb Vd 0):=gD hr rfl
 have d5:w1.cell? (a_ w.heap.size 5)=some (Vb Vd 0):=gD hr rfl
 have d6:w1.cell? (a_ w.heap.size 6)=some (Vb Vd 0):=gD hr rfl
 have d7:w1.cell? (a_ w.heap.size 7)=some (Vb Vf 0):=gD hr rfl
 have d8:w1.cell? (a_ w.heap.size 8)=some (Vb Vd 0):=gD hr rfl
 have d9:w1.cell? (a_ w.heap.size 9)=some (Vb Vd 0):=gD hr rfl
 have d10:w1.cell? (a_ w.heap.size 10)=some (Vb Vd 0):=gD hr rfl
 have d11:w1.cell? (a_ w.heap.size 11)=some (Vb Vd 0):=gD hr rfl
 have d12:w1.cell? (a_ w.heap.size 12)=some (Vb Vd 0):=gD hr rfl
 have d13:w1.cell? (a_ w.heap.size 13)=some (Vb Vd 0):=gD hr rfl
 have d14:w1.cell? (a_ w.heap.size 14)=some (Vb Vf 0):=gD hr rfl
 have fr:=gM hr
 have HB:Hid (gm w.heap.size w w1):=M0 (((R9 _ w).alloc (ai _) _).trans (hb.mono (by simp)))
 obtain⟨U,hU⟩:∃U,U=(((((((((((((((w1.setCell (a_ w.heap.size 0) (Vb Ve a0)).setCell (a_ w.heap.size 1) (Vb Vd a1)).setCell (a_ w.heap.size 2) (Vb Vd a2)).setCell (a_ w.heap.size 3) (Vb Vd a3)).setCell (a_ w.heap.size 4) (Vb Vd a4)).setCell (a_ w.heap.size 5) (Vb Vd a5)).setCell (a_ w.heap.size 6) (Vb Vd a6)).setCell (a_ w.heap.size 7) (Vb Vf a7)).setCell (a_ w.heap.size 8) (Vb Vd a8)).setCell (a_ w.heap.size 9) (Vb Vd a9)).setCell (a_ w.heap.size 10) (Vb Vd a10)).setCell (a_ w.heap.size 11) (Vb Vd a11)).setCell (a_ w.heap.size 12) (Vb Vd a12)).setCell (a_ w.heap.size 13) (Vb Vd a13)).setCell (a_ w.heap.size 14) (Vb Vf a14)):=⟨_,rfl⟩
 have hu:U.heap[w.heap.size]?=some (.cells (rE a0 a1 a2 a3 a4 a5 a6 a7 a8 a9 a10 a11 a12 a13 a14) 87 (0,0)):=by
  rw[hU]
  exact xh _ _ _ _ _ _ _ _ _ _ _ _ _ _ _ _ _ _ _ _ _ _ _ _ _ _ _ _ _ _ hr
 have HBU:Hid (gm w.heap.size w U):=by
  show gm w.heap.size w U
  rw[hU]
  iterate 15 refine iP ?_
  exact HB
 have u0:U.cell? (a_ w.heap.size 0)=some (Vb Ve a0):=gD hu rfl
 have u1:U.cell? (a_ w.heap.size 1)=some (Vb Vd a1):=gD hu rfl
 have u2:U.cell? (a_ w.heap.size 2)=some (Vb Vd a2):=gD hu rfl
 have u3:U.cell? (a_ w.heap.size 3)=some (Vb Vd a3):=gD hu rfl
 have u4:U.cell? (a_ w.heap.size 4)=some (Vb Vd a4):=gD hu rfl
 have u5:U.cell? (a_ w.heap.size 5)=some (Vb Vd a5):=gD hu rfl
 have u6:U.cell? (a_ w.heap.size 6)=some (Vb Vd a6):=gD hu rfl
 have u7:U.cell? (a_ w.heap.size 7)=some (Vb Vf a7):=gD hu rfl
 have u8:U.cell? (a_ w.heap.size 8)=some (Vb Vd a8):=gD hu rfl
 have u9:U.cell? (a_ w.heap.size 9)=some (Vb Vd a9):=gD hu rfl
 have u10:U.cell? (a_ w.heap.size 10)=some (Vb Vd a10):=gD hu rfl
 have u11:U.cell? (a_ w.heap.size 11)=some (Vb Vd a11):=gD hu rfl
 have u12:U.cell? (a_ w.heap.size 12)=some (Vb Vd a12):=gD hu rfl
 have u13:U.cell? (a_ w.heap.size 13)=some (Vb Vd a13):=gD hu rfl
 have u14:U.cell? (a_ w.heap.size 14)=some (Vb Vf a14):=gD hu rfl
 have HU:=M0 hU
 clear hr hu hU hb HR
 go_wp2
 rw[<-gB HU]
 clear HU d0 d1 d2 d3 d4 d5 d6 d7 d8 d9 d10 d11 d12 d13 d14 fr
 exact Vl (v:=.tuple #[.agg (rE a0 a1 a2 a3 a4 a5 a6 a7 a8 a9 a10 a11 a12 a13 a14),Vb Vg k]) (by simp[results,results63,go_sem,u0,u1,u2,u3,u4,u5,u6,u7,u8,u9,u10,u11,u12,u13,u14]) rfl ⟨rfl,HBU⟩
theorem Xu(s:ByteArray)(a0 a1 a2 a3 a4 a5 a6 a7 a8 a9 a10 a11 a12 a13 a14 k:Int)(w:fV)
  (hR:∀u:fV,f_ Vh 63 #[.string s] u fun ee w'=>ee=.returned (.tuple #[.agg (rE a0 a1 a2 a3 a4 a5 a6 a7 a8 a9 a10 a11 a12 a13 a14),Vb Vg k])/\gm u.heap.size u w'):
  f_ Vh 37 #[.string s] w fun ee w'=>ee=.returned (.tuple #[.agg (rE a0 a1 a2 a3 a4 a5 a6 a7 a8 a9 a10 a11 a12 a13 a14),Vb Vg k])/\gm w.heap.size w w':=by
 have HR:=M0 hR
 clear hR
 go_enter func37,ntmps37
 go_wp2_with fail
 refine(HR _).mono ?_
 rintro ee w1 ⟨rfl,hb⟩
 have hr:w1.heap[w.heap.size]?=some (.cells zE_ 87 (0,0)):=(hb.block _ (by simp)).trans (G8 w _)
 have d0:w1.cell? (a_ w.heap.size 0)=some (Vb Ve 0):=gD hr rfl
 have d1:w1.cell? (a_ w.heap.size 1)=some (Vb Vd 0):=gD hr rfl
 have d2:w1.cell? (a_ w.heap.size 2)=some (Vb Vd 0):=gD hr rfl
 have d3:w1.cell? (a_ w.heap.size 3)=some (Vb Vd 0):=gD hr rfl
 have d4:w1.cell? (a_ w.heap.size 4)=some (Vb Vd 0):=gD hr rfl
 have d5:w1.cell? (a_ w.heap.size 5)=some (Vb Vd 0):=gD hr rfl
 have d6:w1.cell? (a_ w.heap.size 6)=some (Vb Vd 0):=gD hr rfl
 have d7:w1.cell? (a_ w.heap.size 7)=some (Vb Vf 0):=gD hr rfl
 have d8:w1.cell? (a_ w.heap.size 8)=some (Vb Vd 0):=gD hr rfl
 have d9:w1.cell? (a_ w.heap.size 9)=some (Vb Vd 0):=gD hr rfl
 have d10:w1.cell? (a_ w.heap.size 10)=some (Vb Vd 0):=gD hr rfl
 have d11:w1.cell? (a_ w.heap.size 11)=some (Vb Vd 0):=gD hr rfl
 have d12:w1.cell? (a_ w.heap.size 12)=some (Vb Vd 0):=gD hr rfl
 have d13:w1.cell? (a_ w.heap.size 13)=some (Vb Vd 0):=gD hr rfl
 have d14:w1.cell? (a_ w.heap.size 14)=some (Vb Vf 0):=gD hr rfl
 have fr:=gM hr
 have HB:Hid (gm w.heap.size w w1):=M0 (((R9 _ w).alloc (ai _) _).trans (hb.mono (by simp)))
 obtain⟨U,hU⟩:∃U,U=(((((((((((((((w1.setCell (a_ w.heap.size 0) (Vb Ve a0)).setCell (a_ w.heap.size 1) (Vb Vd a1)).setCell (a_ w.heap.size 2) (Vb Vd a2)).setCell (a_ w.heap.size 3) (Vb Vd a3)).setCell (a_ w.heap.size 4) (Vb Vd a4)).setCell (a_ w.heap.size 5) (Vb Vd a5)).setCell (a_ w.heap.size 6) (Vb Vd a6)).setCell (a_ w.heap.size 7) (Vb Vf a7)).setCell (a_ w.heap.size 8) (Vb Vd a8)).setCell (a_ w.heap.size 9) (Vb Vd a9)).setCell (a_ w.heap.size 10) (Vb Vd a10)).setCell (a_ w.heap.size 11) (Vb Vd a11)).setCell (a_ w.heap.size 12) (Vb Vd a12)).setCell (a_ w.heap.size 13) (Vb Vd a13)).setCell (a_ w.heap.size 14) (Vb Vf a14)):=⟨_,rfl⟩
 have hu:U.heap[w.heap.size]?=some (.cells (rE a0 a1 a2 a3 a4 a5 a6 a7 a8 a9 a10 a11 a12 a13 a14) 87 (0,0)):=by
  rw[hU]
  exact xh _ _ _ _ _ _ _ _ _ _ _ _ _ _ _ _ _ _ _ _ _ _ _ _ _ _ _ _ _ _ hr
 have HBU:Hid (gm w.heap.size w U):=by
  show gm w.heap.size w U
  rw[hU]
  iterate 15 refine iP ?_
  exact HB
 have u0:U.cell? (a_ w.heap.size 0)=some (Vb Ve a0):=gD hu rfl
 have u1:U.cell? (a_ w.heap.size 1)=some (Vb Vd a1):=gD hu rfl
 have u2:U.cell? (a_ w.heap.size 2)=some (Vb Vd a2):=gD hu rfl
 have u3:U.cell? (a_ w.heap.size 3)=some (Vb Vd a3):=gD hu rfl
 have u4:U.cell? (a_ w.heap.size 4)=some (Vb Vd a4):=gD hu rfl
 have u5:U.cell? (a_ w.heap.size 5)=some (Vb Vd a5):=gD hu rfl
 have u6:U.cell? (a_ w.heap.size 6)=some (Vb Vd a6):=gD hu rfl
 have u7:U.cell? (a_ w.heap.size 7)=some (Vb Vf a7):=gD hu rfl
 have u8:U.cell? (a_ w.heap.size 8)=some (Vb Vd a8):=gD hu rfl
 have u9:U.cell? (a_ w.heap.size 9)=some (Vb Vd a9):=gD hu rfl
 have u10:U.cell? (a_ w.heap.size 10)=some (Vb Vd a10):=gD hu rfl
 have u11:U.cell? (a_ w.heap.size 11)=some (Vb Vd a11):=gD hu rfl
 have u12:U.cell? (a_ w.heap.size 12)=some (Vb Vd a12):=gD hu rfl
 have u13:U.cell? (a_ w.heap.size 13)=some (Vb Vd a13):=gD hu rfl
 have u14:U.cell? (a_ w.heap.size 14)=some (Vb Vf a14):=gD hu rfl
 have HU:=M0 hU
 clear hr hu hU hb HR
 go_wp2
 rw[<-gB HU]
 clear HU d0 d1 d2 d3 d4 d5 d6 d7 d8 d9 d10 d11 d12 d13 d14 fr
 exact Vl (v:=.tuple #[.agg (rE a0 a1 a2 a3 a4 a5 a6 a7 a8 a9 a10 a11 a12 a13 a14),Vb Vg k]) (by simp[results,results37,go_sem,u0,u1,u2,u3,u4,u5,u6,u7,u8,u9,u10,u11,u12,u13,u14]) rfl ⟨rfl,HBU⟩
end QE
end Go.Proofs.YtdgacidndknceaaGreatDoor
