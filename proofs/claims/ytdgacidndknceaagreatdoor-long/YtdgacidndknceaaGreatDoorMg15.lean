import Derived.Test.YtdgacidndknceaaGreatDoorMg08
import Derived.Test.YtdgacidndknceaaGreatDoorMg14
set_option linter.all false
set_option maxHeartbeats 2000000
set_option maxRecDepth 10000
open Go.ChangeShapes Go.WideShapes Go.ChangeAt Go.RowKit
open Go renaming World → fV, Calls → f_
open Go.RowKit renaming Below → gm
open Go.Proofs.Tryz renaming prog → Vh
open Go.Proofs.Tryz
namespace Go.Proofs.YtdgacidndknceaaGreatDoor
namespace Js
open Bs
variable{w0:fV} {P:Nat→Prop} {w w':fV} {B:Nat} {m m':Mc}
structure Nb where
 asks:Int
 k0:UInt8
 k1:UInt8
 k2:UInt8
 k3:UInt8
 k4:UInt8
 k5:UInt8
 till:Int
 load:ByteArray
def Nb.v(n:Nb):Value:=.agg (rB n.asks n.k0.toNat n.k1.toNat n.k2.toNat n.k3.toNat n.k4.toNat n.k5.toNat n.till n.load)
def Nb.d(n:Nb):DataW Unit:=.agg [.lit (.int .i64 n.asks),.lit (.int .u8 n.k0.toNat),.lit (.int .u8 n.k1.toNat),.lit (.int .u8 n.k2.toNat),.lit (.int .u8 n.k3.toNat),.lit (.int .u8 n.k4.toNat),.lit (.int .u8 n.k5.toNat),.lit (.int .i64 n.till),.lit (.string n.load.data.toList)]
def nb0:Nb:=⟨0,0,0,0,0,0,0,0,⟨#[]⟩⟩
theorem aN4(n:Nb):Qz n.v=some (n.d,[]):=rfl
theorem aF5{v:Value}{n:Nb}{ps:List MemPlace}(h:Qz v=some (n.d,ps)):v=n.v:=by
 unfold Qz at h
 split at h
 ·rename_i cs
  split at h
  ·rename_i a k0 k1 k2 k3 k4 k5 u s hcs
   simp only[bB,Prod.mk.injEq,Nb.d,DataW.agg.injEq,List.cons.injEq,DataW.lit.injEq,Lit.int.injEq,Lit.string.injEq]at h
   obtain⟨⟨⟨_,rfl⟩,⟨_,rfl⟩,⟨_,rfl⟩,⟨_,rfl⟩,⟨_,rfl⟩,⟨_,rfl⟩,⟨_,rfl⟩,⟨_,rfl⟩,hs,_⟩,_⟩:=h
   have e:s=n.load:=by
    cases s;cases hl:n.load
    rw[hl]at hs
    simp at hs
    rw[hs]
   subst e
   have:cs=(rB n.asks n.k0.toNat n.k1.toNat n.k2.toNat n.k3.toNat n.k4.toNat n.k5.toNat n.till n.load):=by
    rw[<-Array.toList_inj,hcs]
   rw[this];rfl
  ·simp at h
 ·simp at h
theorem aG2(a:Int)(h:0<=a/\a<=4294967295):keyOf Vh 36 (.int .u32 a)=some (.int .u32 a):=Maps.keyOf_int_mk underlying36 (WalkArith.wf_u32 h)
theorem YE{bm n:Nat}{D:DataW Unit}(h:w.ownsMap Vh 36 Qz bm n D)(a:Int)(ha:0<=a/\a<=4294967295)(x:Nb)(hx:D.atKey (.int .u32 a) nb0.d=x.d):
  (Instr.lookup 102 (.map (some bm)) (.int .u32 a) true).run Vh w=.ok (.tuple #[x.v,.bool (Maps.has D (.int .u32 a))]) w:=by
 obtain⟨v,ps,h1,h2⟩:=h.look_ok (Maps.int_keyed underlying36) vK (Sb w) (zd:=nb0.d) (zp:=[]) rfl (aG2 a ha)
 rw[hx]at h2
 rw[h1,aF5 h2]
theorem aa7{bm n n':Nat}{D:DataW Unit}(h:w.ownsMap Vh 36 Qz bm n D)(hs:Maps.size D<=n'):w.ownsMap Vh 36 Qz bm n' D:=by
 obtain⟨es,clock,hb,F,hz,rfl⟩:=h
 refine⟨es,clock,hb,F,?_,rfl⟩
 have e1:Maps.size (DataW.map ((es.toList.map (WideElems.rg Vh 36 Qz)).foldr DataW.insert []))=es.size:=by simp[Maps.size,DataW.length_sorted]
 omega
structure PU (w w':fV) (b:Nat):Prop where
 os:w'.os=w.os
 tape:w'.tape=w.tape
 output:w'.output=w.output
 size:w.heap.size<=w'.heap.size
 block:∀k,k<w.heap.size->k≠b->w'.heap[k]?=w.heap[k]?
theorem PU.of{u u':fV}{b:Nat}(hb:gm w.heap.size w u)(ht:u.mapTurned u' b):PU w u' b:=by
 obtain⟨es,c,es',c',h1,rfl⟩:=ht
 exact⟨hb.os,hb.tape,hb.output,by simpa[ChangeMaps.setBlock]using hb.size,fun k hk hn=>(ChangeMaps.heap_setBlock_other h1 _ hn).trans (hb.block k hk)⟩
theorem Mx.ae3(h:Mx w0 P w B m){k:Nat}{a:Array Value}{t:TypeId}{z:Nat×Nat}(hk:w.heap[k]?=some (.cells a t z)):k≠m.bm:=by
 rintro rfl
 obtain⟨es,c,h1,_⟩:=h.map
 rw[hk]at h1
 simp at h1
theorem Mx.mapped(h:Mx w0 P w B m)(t:PU w w' m.bm){D:DataW Unit}(ho:w'.ownsMap Vh 36 Qz m.bm 4 D):Mx w0 P w' B {m with cd:=D}:=
 {os:=t.os.trans h.os,tape:=t.tape.trans h.tape,output:=t.output.trans h.output,size:=aG h.size t.size
  kept:=fun k hk hP=>(t.block k (aQ hk h.size) (by
   rintro rfl
   rcases h.own m.bm (aA (au rfl))with e|e
   ·exact hP e
   ·omega)).trans (h.kept k hk hP)
  own:=h.own,low:=h.low,gl:=h.gl
  row:=(t.block B h.lt h.Cg.symm).trans h.row
  map:=ho
  came:=h.came.other (t.block _ h.came.lt (by obtain⟨_,_,_,_,arr,h1,_⟩:=h.came;exact h.ae3 h1))
  goes:=h.goes.other (t.block _ h.goes.lt (by obtain⟨_,_,_,_,arr,h1,_⟩:=h.goes;exact h.ae3 h1))
  apart:=h.apart
  image:=iN h.image (fun k hk=>t.block k (h.image.lt k hk).2 (by
   rcases h.image.2 with⟨h1,_⟩|⟨g,cap,cur,e1,e2,e3,e4⟩
   ·rw[h1]at hk;cases hk
   ·rw[e1]at hk
    have:g=k:=aU hk
    subst this
    exact h.ae3 e3))}
theorem aw4{bm:Nat}{D:DataW Unit}(hown:w.ownsMap Vh 36 Qz bm 4 D)(a:Int)(ha:0<=a/\a<=4294967295)(n x:Nb)(hx:D.atKey (.int .u32 a) nb0.d=x.d)
  (hroom:Maps.has D (.int .u32 a)=true∨Maps.has D (.int .u32 a)=false/\Maps.size D<4) (hs:Maps.size (D.put (.int .u32 a) n.d)<=4):
  f_ Vh 134 #[.map (some bm),.int .u32 a,n.v] w fun ee w'=>ee=.returned (.tuple #[])/\w'.ownsMap Vh 36 Qz bm 4 (D.put (.int .u32 a) n.d)/\PU w w' bm:=by
 have hlt:=JA hown
 obtain⟨o1,ho1⟩:∃o1,o1=Obj.cells (rB n.asks n.k0.toNat n.k1.toNat n.k2.toNat n.k3.toNat n.k4.toNat n.k5.toNat n.till n.load) 157 (0,0):=⟨_,rfl⟩
 have hL:(Instr.lookup 102 (.map (some bm)) (.int .u32 a) true).run Vh (w.alloc o1)=.ok (.tuple #[x.v,.bool (Maps.has D (.int .u32 a))]) (w.alloc o1):=YE (oP hown (Vi w _ _ hlt)) a ha x hx
 have HK:=M0 (aG2 a ha)
 have HR:=M0 (aN4 n)
 rw[ho1]at hL
 unfold Nb.v at hL HR ⊢
 have HB:Hid (∀o2:Obj,((w.alloc o1).alloc o2).heap[bm]?=w.heap[bm]?):=M0 (fun o2=>(Vi (w.alloc o1) _ _ (by simp;omega)).trans (Vi w _ _ hlt))
 have HBL:Hid (∀o2:Obj,gm w.heap.size w ((w.alloc o1).alloc o2)):=M0 (fun o2=>((R9 _ _).alloc (ai _) o1).alloc (by simp) o2)
 rw[ho1]at HB HBL
 clear ho1
 rcases hroom with hr|⟨hr,hr4⟩
 ·rw[hr]at hL
  go_enter func134,ntmps134
  go_wp2_with (first|(at_mapUpdate;refine wpList_mapUpdate_in _ rfl _ _ _ 102 rfl 36 157 (Maps.int_keyed underlying36) vK Qz bm 4 D rfl (oP hown (HB _)) (by decide) _ _ _ rfl rfl HK n.d [] (gB HR) ?_;intro w1 hown1 hturn1)|go_in)
  go_end0
  exact⟨rfl,aa7 hown1 hs,PU.of (HBL _) hturn1⟩
 ·rw[hr]at hL
  have HN:Hid (∀o2:Obj,∀ty,(Builtin.len_ #[102] ty #[.map (some bm)]).run Vh ((w.alloc (.cells (rB n.asks n.k0.toNat n.k1.toNat n.k2.toNat n.k3.toNat n.k4.toNat n.k5.toNat n.till n.load) 157 (0,0))).alloc o2)=.ok (.int .i64 (Maps.size D)) ((w.alloc (.cells (rB n.asks n.k0.toNat n.k1.toNat n.k2.toNat n.k3.toNat n.k4.toNat n.k5.toNat n.till n.load) 157 (0,0))).alloc o2)):=M0 (fun o2 ty=>(oP hown (HB o2)).len vK ty)
  have hN:=HN (.cells (rB x.asks x.k0.toNat x.k1.toNat x.k2.toNat x.k3.toNat x.k4.toNat x.k5.toNat x.till x.load) 157 (0,0)) 3
  obtain⟨z,hz⟩:∃z:Int,z=(Maps.size D:Int):=⟨_,rfl⟩
  have hz4:z≠4:=by omega
  rw[<-hz]at hN
  have hzb:(z==4)=false:=by simpa using hz4
  clear hz HN
  go_enter func134,ntmps134
  go_wp2_with (first|(at_mapUpdate;refine wpList_mapUpdate_in _ rfl _ _ _ 102 rfl 36 157 (Maps.int_keyed underlying36) vK Qz bm 4 D rfl (oP hown (HB _)) (by decide) _ _ _ rfl rfl HK n.d [] (gB HR) ?_;intro w1 hown1 hturn1)|go_in)
  go_end0
  exact⟨rfl,aa7 hown1 hs,PU.of (HBL _) hturn1⟩
def Room(D:DataW Unit)(a:Int):Prop:=(0<=a/\a<=4294967295)/\(∃x:Nb,D.atKey (.int .u32 a) nb0.d=x.d)/\(Maps.has D (.int .u32 a)=true∨Maps.has D (.int .u32 a)=false/\Maps.size D<4)/\∀d,Maps.size (D.put (.int .u32 a) d)<=4
def Mc.keep(m:Mc)(a:Int)(n:Nb):Mc:={m with cd:=m.cd.put (.int .u32 a) n.d}
theorem PU.cells{w w':fV}{b k:Nat}(t:PU w w' b){o:Obj}(hk:w.heap[k]?=some o)(hn:k≠b):w'.heap[k]?=some o:=(t.block k (gG hk) hn).trans hk
theorem Z6(h:Mx w0 P w B m){a:Int}(hr:Room m.cd a)(n:Nb):f_ Vh 134 #[.map (some m.bm),.int .u32 a,n.v] w fun ee w'=>ee=.returned (.tuple #[])/\Mx w0 P w' B (m.keep a n)/\PU w w' m.bm:=by
 obtain⟨ha,⟨x,hx⟩,h1,h2⟩:=hr
 refine(aw4 h.map a ha n x hx h1 (h2 _)).mono ?_
 rintro ee w' ⟨rfl,ho,ht⟩
 exact⟨rfl,h.mapped ht ho,ht⟩
def Mc.ah5(m:Mc)(a:Int):ByteArray:=WM.vE 1 m.card m.addr [0,0,0,0,0,0] a
def Mc.aH2(m:Mc)(a:Int):Mc:=m.send [255,255,255,255,255,255] 2054 (m.ah5 a)
theorem aE1(h:Mx w0 P w B m)(hst:0<=m.addr/\m.addr<=4294967295)(a:Int)(ha:0<=a/\a<=4294967295):f_ Vh 135 #[p_ B,.int .u32 a] w fun ee w'=>ee=.returned (.tuple #[])/\Mx w0 P w' B (m.aH2 a):=by
 have hz:=Cq 1 m.card rfl m.addr [0,0,0,0,0,0] rfl a
 have HAD:Hid (∀u,Mx w0 P u B m->f_ Vh 47 #[p_ B] u fun e w'=>e=.returned (.int .u32 m.addr)/\w'=u):=M0 (fun u hu=>lL hu)
 have HWA:Hid (∀u,f_ Vh 64 #[.agg (rE 1 m.k0.toNat m.k1.toNat m.k2.toNat m.k3.toNat m.k4.toNat m.k5.toNat m.addr 0 0 0 0 0 0 a)] u fun ee w'=>ee=.returned (.tuple #[.string (m.ah5 a),.int .i64 (WM.Bu 1)])/\gm u.heap.size u w'):=M0 (fun u=>WM.lq 1 m.k0 m.k1 m.k2 m.k3 m.k4 m.k5 m.addr 0 0 0 0 0 0 a u (by decide) (by decide) hst.1 hst.2 ha.1 ha.2)
 have HSD:Hid (∀(w0:fV) (P:Nat->Prop) (u:fV),Mx w0 P u B m->f_ Vh 174 #[p_ B,.agg (rT 255 255 255 255 255 255),.int .u16 2054,.string (m.ah5 a)] u fun ee w'=>ee=.returned (.tuple #[])/\Mx w0 P w' B (m.aH2 a)):=M0 (fun w0 P u hu=>sP hu 255 255 255 255 255 255 2054 (m.ah5 a) (by decide) (by decide) (aG hz (by decide)))
 have HM:=M0 h
 have HK:Hid (∀u,gm w.heap.size w u->u.cell? (a_ B 1)=some (.int .u8 m.k0.toNat)/\u.cell? (a_ B 2)=some (.int .u8 m.k1.toNat)/\u.cell? (a_ B 3)=some (.int .u8 m.k2.toNat)/\u.cell? (a_ B 4)=some (.int .u8 m.k3.toNat)/\u.cell? (a_ B 5)=some (.int .u8 m.k4.toNat)/\u.cell? (a_ B 6)=some (.int .u8 m.k5.toNat)):=M0 (fun u hb=>⟨(h.below hb).c1,(h.below hb).c2,(h.below hb).c3,(h.below hb).c4,(h.below hb).c5,(h.below hb).c6⟩)
 have hlt:=h.lt
 obtain⟨AB,hAB⟩:∃AB,AB=m.ah5 a:=⟨_,rfl⟩
 obtain⟨ke,hke⟩:∃ke,ke=WM.Bu 1:=⟨_,rfl⟩
 rw[<-hAB]at HWA HSD
 obtain⟨ad,had⟩:∃ad,ad=m.addr:=⟨_,rfl⟩
 rw[<-had]at HWA HAD
 rw[<-hke]at HWA
 clear h hst ha hz hAB hke had
 go_enter func135,ntmps135
 go_wp2
 go_cut [4] (fun s4 wc=>s4=(p_ w.heap.size)/\Hid (Mx w0 P wc B m/\wc.heap[w.heap.size]?=some (.cells (rE 1 m.k0.toNat m.k1.toNat m.k2.toNat m.k3.toNat m.k4.toNat m.k5.toNat ad 0 0 0 0 0 0 a) 87 (0,0))))
 case first=>
  go_region_held3 (fun u=>u.cell? (a_ B 1)=some (.int .u8 m.k0.toNat)/\u.cell? (a_ B 2)=some (.int .u8 m.k1.toNat)/\u.cell? (a_ B 3)=some (.int .u8 m.k2.toNat)/\u.cell? (a_ B 4)=some (.int .u8 m.k3.toNat)/\u.cell? (a_ B 5)=some (.int .u8 m.k4.toNat)/\u.cell? (a_ B 6)=some (.int .u8 m.k5.toNat)) (exact HK _ (by(repeat (first|exact R9 _ _|(refine VH ?_)|(refine VL ?_ (by first|(simp;done)|(simp;omega)) _)))))
   (first|(go_at_call 47;refine bE (HAD _ ?_) ?_;exact HM.below (by(repeat (first|exact R9 _ _|(refine VH ?_)|(refine VL ?_ (by first|(simp;done)|(simp;omega)) _))));rintro ee u2 ⟨rfl,rfl⟩))
  all_goals go_wp2
  all_goals go_meet
  all_goals exact⟨rfl,M0 ⟨HM.below (by(repeat (first|exact R9 _ _|(refine VH ?_)|(refine VL ?_ (by first|(simp;done)|(simp;omega)) _)))),G8 w _⟩⟩
 case rest=>
  rename fV=>x
  obtain⟨rfl,HC⟩:=hcut
  have HX:=M0 HC.1
  have HR:=M0 HC.2
  have HKS:Hid (∀u,gm x.heap.size x u->(u.cell? (a_ 2 0)=some (.int .u8 255)/\u.cell? (a_ 2 1)=some (.int .u8 255)/\u.cell? (a_ 2 2)=some (.int .u8 255)/\u.cell? (a_ 2 3)=some (.int .u8 255)/\u.cell? (a_ 2 4)=some (.int .u8 255)/\u.cell? (a_ 2 5)=some (.int .u8 255))/\(u.cell? (a_ w.heap.size 0)=some (.int .u16 1)/\u.cell? (a_ w.heap.size 1)=some (.int .u8 m.k0.toNat)/\u.cell? (a_ w.heap.size 2)=some (.int .u8 m.k1.toNat)/\u.cell? (a_ w.heap.size 3)=some (.int .u8 m.k2.toNat)/\u.cell? (a_ w.heap.size 4)=some (.int .u8 m.k3.toNat)/\u.cell? (a_ w.heap.size 5)=some (.int .u8 m.k4.toNat)/\u.cell? (a_ w.heap.size 6)=some (.int .u8 m.k5.toNat)/\u.cell? (a_ w.heap.size 7)=some (.int .u32 ad)/\u.cell? (a_ w.heap.size 8)=some (.int .u8 0)/\u.cell? (a_ w.heap.size 9)=some (.int .u8 0)/\u.cell? (a_ w.heap.size 10)=some (.int .u8 0)/\u.cell? (a_ w.heap.size 11)=some (.int .u8 0)/\u.cell? (a_ w.heap.size 12)=some (.int .u8 0)/\u.cell? (a_ w.heap.size 13)=some (.int .u8 0)/\u.cell? (a_ w.heap.size 14)=some (.int .u32 a))):=M0 (fun u hb=>⟨(HX.below hb).YK,NN ((hb.block w.heap.size (Vj HR)).trans HR)⟩)
  have HFOOT:Hid (¬iq B m w.heap.size/\w0.heap.size<=w.heap.size):=M0 ⟨fun hf=>by have:=HM.ik hf;omega,HM.size⟩
  clear HK HAD hlt HC
  go_wp2
  go_region_held3 (fun u=>(u.cell? (a_ 2 0)=some (.int .u8 255)/\u.cell? (a_ 2 1)=some (.int .u8 255)/\u.cell? (a_ 2 2)=some (.int .u8 255)/\u.cell? (a_ 2 3)=some (.int .u8 255)/\u.cell? (a_ 2 4)=some (.int .u8 255)/\u.cell? (a_ 2 5)=some (.int .u8 255))/\(u.cell? (a_ w.heap.size 0)=some (.int .u16 1)/\u.cell? (a_ w.heap.size 1)=some (.int .u8 m.k0.toNat)/\u.cell? (a_ w.heap.size 2)=some (.int .u8 m.k1.toNat)/\u.cell? (a_ w.heap.size 3)=some (.int .u8 m.k2.toNat)/\u.cell? (a_ w.heap.size 4)=some (.int .u8 m.k3.toNat)/\u.cell? (a_ w.heap.size 5)=some (.int .u8 m.k4.toNat)/\u.cell? (a_ w.heap.size 6)=some (.int .u8 m.k5.toNat)/\u.cell? (a_ w.heap.size 7)=some (.int .u32 ad)/\u.cell? (a_ w.heap.size 8)=some (.int .u8 0)/\u.cell? (a_ w.heap.size 9)=some (.int .u8 0)/\u.cell? (a_ w.heap.size 10)=some (.int .u8 0)/\u.cell? (a_ w.heap.size 11)=some (.int .u8 0)/\u.cell? (a_ w.heap.size 12)=some (.int .u8 0)/\u.cell? (a_ w.heap.size 13)=some (.int .u8 0)/\u.cell? (a_ w.heap.size 14)=some (.int .u32 a))) (first|exact HKS _ ((R9 _ _).drew)|exact HKS _ HB1|exact⟨H3.YK,NN ((H3.kept w.heap.size (Vj HR) HFOOT.1).trans HR)⟩)
   (first|(go_at_call 64;refine(HWA _).mono ?_;rintro ee u1 ⟨rfl,hb1⟩;have HB1:=M0 (((R9 x.heap.size x).drew).trans hb1);clear hb1)|(go_at_call 175;refine(WQ _ _ _).mono ?_;rintro ee u2 ⟨rfl,rfl⟩)|(go_at_call 174;refine(HSD x (iq B m) _ (HX.base.below HB1)).mono ?_;rintro ee u3 ⟨rfl,h3⟩;have H3:=M0 h3;clear h3))
  go_wp2
  go_end0
  exact⟨rfl,HX.join H3⟩
def Nb.more(n:Nb)(now:Int):Nb:={n with asks:=wrap64 (n.asks+1),till:=wrap64 (now+2)}
def Mc.aK0(m:Mc)(a:Int)(n:Nb):Mc:=(m.keep a (n.more m.now)).aH2 a
theorem ay5(h:Mx w0 P w B m)(ho:m.Ok){a:Int}(hr:Room m.cd a)(n:Nb):f_ Vh 85 #[p_ B,.int .u32 a,n.v] w fun ee w'=>ee=.returned (.tuple #[])/\Mx w0 P w' B (m.aK0 a n):=by
 have HM:=M0 h
 have c0:=h.c0
 have c14:=h.c14
 have hlt:=h.lt
 have hB:B≠w.heap.size:=eG hlt
 have HK:Hid (∀u,Mx w0 P u B m->f_ Vh 134 #[.map (some m.bm),.int .u32 a,(n.more m.now).v] u fun ee w'=>ee=.returned (.tuple #[])/\Mx w0 P w' B (m.keep a (n.more m.now))/\PU u w' m.bm):=M0 (fun u hu=>Z6 hu hr _)
 have HA:Hid (∀u,Mx w0 P u B (m.keep a (n.more m.now))->f_ Vh 135 #[p_ B,.int .u32 a] u fun ee w'=>ee=.returned (.tuple #[])/\Mx w0 P w' B (m.aK0 a n)):=M0 (fun u hu=>aE1 hu ho.addr a hr.1)
 unfold Nb.more at HK
 unfold Nb.v at HK ⊢
 clear h ho hr
 go_enter func85,ntmps85
 go_wp2
 obtain⟨X,hX⟩:∃X,X=w.alloc (.cells (rB (wrap64 (n.asks+1)) n.k0.toNat n.k1.toNat n.k2.toNat n.k3.toNat n.k4.toNat n.k5.toNat (wrap64 (m.now+2)) n.load) 157 (0,0)):=⟨_,rfl⟩
 have HX:Hid (Mx w0 P X B m/\X.heap[w.heap.size]?=some (.cells (rB (wrap64 (n.asks+1)) n.k0.toNat n.k1.toNat n.k2.toNat n.k3.toNat n.k4.toNat n.k5.toNat (wrap64 (m.now+2)) n.load) 157 (0,0))/\w.heap.size≠m.bm):=M0 (by
  rw[hX];exact⟨HM.alloc _,G8 w _,fun e=>by have:=HM.ik (aA (au e));omega⟩)
 have HC:Hid (∀u:fV,u.heap[w.heap.size]?=some (.cells (rB (wrap64 (n.asks+1)) n.k0.toNat n.k1.toNat n.k2.toNat n.k3.toNat n.k4.toNat n.k5.toNat (wrap64 (m.now+2)) n.load) 157 (0,0))->u.cell? (a_ w.heap.size 0)=some (.int .i64 (wrap64 (n.asks+1)))/\u.cell? (a_ w.heap.size 1)=some (.int .u8 n.k0.toNat)/\u.cell? (a_ w.heap.size 2)=some (.int .u8 n.k1.toNat)/\u.cell? (a_ w.heap.size 3)=some (.int .u8 n.k2.toNat)/\u.cell? (a_ w.heap.size 4)=some (.int .u8 n.k3.toNat)/\u.cell? (a_ w.heap.size 5)=some (.int .u8 n.k4.toNat)/\u.cell? (a_ w.heap.size 6)=some (.int .u8 n.k5.toNat)/\u.cell? (a_ w.heap.size 7)=some (.int .i64 (wrap64 (m.now+2)))/\u.cell? (a_ w.heap.size 8)=some (.string n.load)):=M0 (fun u hu=>by
  have q:=fun j=>dh u _ j _ _ _ hu
  exact⟨q 0,q 1,q 2,q 3,q 4,q 5,q 6,q 7,q 8⟩)
 rw[<-hX]
 clear hX c0 c14 HM
 go_region_held3 (fun u=>u.cell? (a_ B 0)=some (.map (some m.bm))/\u.cell? (a_ w.heap.size 0)=some (.int .i64 (wrap64 (n.asks+1)))/\u.cell? (a_ w.heap.size 1)=some (.int .u8 n.k0.toNat)/\u.cell? (a_ w.heap.size 2)=some (.int .u8 n.k1.toNat)/\u.cell? (a_ w.heap.size 3)=some (.int .u8 n.k2.toNat)/\u.cell? (a_ w.heap.size 4)=some (.int .u8 n.k3.toNat)/\u.cell? (a_ w.heap.size 5)=some (.int .u8 n.k4.toNat)/\u.cell? (a_ w.heap.size 6)=some (.int .u8 n.k5.toNat)/\u.cell? (a_ w.heap.size 7)=some (.int .i64 (wrap64 (m.now+2)))/\u.cell? (a_ w.heap.size 8)=some (.string n.load)) (first|exact⟨HX.1.c0,HC _ HX.2.1⟩|exact⟨H1.c0,HC _ HR⟩)
  (first|(go_at_call 134;refine(HK _ HX.1.drew).mono ?_;rintro ee u ⟨rfl,h1,t1⟩;have H1:=M0 h1;have HR:=M0 (t1.cells HX.2.1 HX.2.2);clear h1 t1))
 clear HX HC HR
 go_wp2_with fail
 refine(HA _ H1).mono ?_
 rintro ee u2 ⟨rfl,h2⟩
 have H2:=M0 h2
 clear h2
 go_wp2
 go_end0
 exact⟨rfl,H2⟩
end Js
namespace Js
open Bs
variable{w0:fV} {P:Nat→Prop} {w w':fV} {B Q:Nat} {m m':Mc} {R:fV→(Nat→Prop)→Prop}
def Base(R:fV->(Nat->Prop)->Prop)(B:Nat):Prop:=∀(w0:fV) (P:Nat->Prop) (w:fV) (m:Mc),R w0 P->Mx w0 P w B m->R w (iq B m)
def Yv(R:fV->(Nat->Prop)->Prop)(f:Nat)(args:Array Value)(B:Nat)(m:Mc)(Z:Mc->Prop):Prop:=∀(w0:fV) (P:Nat->Prop) (u:fV),R w0 P->Mx w0 P u B m->f_ Vh f args u fun ee w'=>ee=.returned (.tuple #[])/\∃mz,Z mz/\Mx w0 P w' B mz
variable{Z:Mc→Prop}
theorem ZX(h:Mx w0 P w B m)(hr:R w0 P)(hB:Base R B)(g cap:Nat)(hg:w.heap[g]?=some (.cells #[.int .u16 2054,(.func (.func 145) #[] #[]),.int .u16 2048,(.func (.func 146) #[] #[])] 206 (0,0)))(hF: ¬iq B m g)(s:ByteArray)(hA:Yv R 145 #[p_ B,.string s] B m Z):
  f_ Vh 93 #[p_ B,.slice (some (a_ g 0)) 2 cap,.int .u16 2054,.string s] w fun ee w'=>ee=.returned (.tuple #[])/\∃mz,Z mz/\Mx w0 P w' B mz:=by
 have HM:=M0 (h.alloc (.cells #[.int .u16 2054,(.func (.func 145) #[] #[])] 206))
 have HC:=M0 (hA _ _ _ (hB _ _ _ _ hr HM) HM.base)
 have hl:=gG hg
 obtain⟨x0,x1,x2,x3⟩:=Bl hg
 have HR:=M0 ((Vi w (.cells #[.int .u16 2054,(.func (.func 145) #[] #[])] 206) g hl).trans hg)
 clear h hg hA hr hB
 go_enter func93,ntmps93
 go_wp2
 refine Vz 3 ?_
 rw[Vs]
 go_wp2_with fail
 refine HC.mono ?_
 rintro ee u2 ⟨rfl,mz,hz,h2⟩
 have HZ:=M0 hz
 clear hz
 have HM2:=M0 (HM.join h2)
 obtain⟨y0,y1,y2,y3⟩:=Bl ((h2.kept g (gG HR) hF).trans HR)
 clear h2 HC HM HR x0 x1 x2 x3
 go_wp2
 rw[Vs]
 go_wp2
 rw[Vs]
 go_wp2
 go_end0
 exact⟨rfl,mz,HZ,HM2.alloc _⟩
theorem ZA(h:Mx w0 P w B m)(hr:R w0 P)(hB:Base R B)(g cap:Nat)(hg:w.heap[g]?=some (.cells #[.int .u16 2054,(.func (.func 145) #[] #[]),.int .u16 2048,(.func (.func 146) #[] #[])] 206 (0,0)))(hF: ¬iq B m g)(s:ByteArray)(hA:Yv R 146 #[p_ B,.string s] B m Z):
  f_ Vh 93 #[p_ B,.slice (some (a_ g 0)) 2 cap,.int .u16 2048,.string s] w fun ee w'=>ee=.returned (.tuple #[])/\∃mz,Z mz/\Mx w0 P w' B mz:=by
 have HM:=M0 ((h.alloc (.cells #[.int .u16 2054,(.func (.func 145) #[] #[])] 206)).alloc (.cells #[.int .u16 2048,(.func (.func 146) #[] #[])] 206))
 have HC:=M0 (hA _ _ _ (hB _ _ _ _ hr HM) HM.base)
 have hl:=gG hg
 obtain⟨x0,x1,x2,x3⟩:=Bl hg
 obtain⟨y0,y1,y2,y3⟩:=Bl ((Vi w (.cells #[.int .u16 2054,(.func (.func 145) #[] #[])] 206) g hl).trans hg)
 clear h hg hA hr hB
 go_enter func93,ntmps93
 go_wp2
 refine Vz 3 ?_
 rw[Vs]
 go_wp2
 rw[Vs]
 go_wp2_with fail
 refine HC.mono ?_
 rintro ee u2 ⟨rfl,mz,hz,h2⟩
 have HZ:=M0 hz
 clear hz
 have HM2:=M0 (HM.join h2)
 clear h2 HC HM x0 x1 x2 x3 y0 y1 y2 y3
 go_wp2
 rw[Vs]
 go_wp2
 go_end0
 exact⟨rfl,mz,HZ,HM2⟩
theorem ah3(h:Mx w0 P w B m)(hr:R w0 P)(hB:Base R B)(g cap:Nat)(hg:w.heap[g]?=some (.cells #[.int .u16 2054,(.func (.func 145) #[] #[]),.int .u16 2048,(.func (.func 146) #[] #[])] 206 (0,0)))(hF: ¬iq B m g)(kd:Int)(s:ByteArray)(hA:kd=2054->Yv R 145 #[p_ B,.string s] B m Z)(hP:kd=2048->Yv R 146 #[p_ B,.string s] B m Z)(h0:kd≠2054->kd≠2048->Z m):
  f_ Vh 93 #[p_ B,.slice (some (a_ g 0)) 2 cap,.int .u16 kd,.string s] w fun ee w'=>ee=.returned (.tuple #[])/\∃mz,Z mz/\Mx w0 P w' B mz:=by
 by_cases k1:kd=2054
 ·subst k1
  exact ZX h hr hB g cap hg hF s (hA rfl)
 ·by_cases k2:kd=2048
  ·subst k2
   exact ZA h hr hB g cap hg hF s (hP rfl)
  ·refine(yf h g cap hg kd s k1 k2).mono ?_
   rintro ee u ⟨rfl,hu⟩
   exact⟨rfl,m,h0 k1 k2,hu⟩
theorem Yh(h:Mx w0 P w B m)(hr:R w0 P)(hB:Base R B)(s:ByteArray)(a0 a1 a2 a3 a4 a5 a6 a7 a8 a9 a10 a11 ty:Int)(ld:ByteArray)(k:Int)
  (hE:∀u,f_ Vh 33 #[.string s] u fun e w'=>e=.returned (.tuple #[.agg (rF a0 a1 a2 a3 a4 a5 a6 a7 a8 a9 a10 a11 ty ld),.int .i64 k])/\gm u.heap.size u w')
  (h0:k≠0∨ru m a0 a1 a2 a3 a4 a5=false->Z m)
  (h1:k=0->ru m a0 a1 a2 a3 a4 a5=true->ty≠2054->ty≠2048->Z m)
  (hA:k=0->ru m a0 a1 a2 a3 a4 a5=true->ty=2054->Yv R 145 #[p_ B,.string ld] B m Z)
  (hP:k=0->ru m a0 a1 a2 a3 a4 a5=true->ty=2048->Yv R 146 #[p_ B,.string ld] B m Z):
  f_ Vh 54 #[p_ B,.string s] w fun ee w'=>ee=.returned (.tuple #[])/\∃mz,Z mz/\Mx w0 P w' B mz:=by
 have HRR:Hid (∀u,Mx w0 P u B m->R u (iq B m)):=M0 (fun u hu=>hB _ _ _ _ hr hu)
 have HBB:=M0 hB
 clear hr hB
 have HR:=M0 (hE w)
 have HM:=M0 h
 have hq1:=fun u=>iC a0 a1 a2 a3 a4 a5 m.k0.toNat m.k1.toNat m.k2.toNat m.k3.toNat m.k4.toNat m.k5.toNat u
 have hq2:=fun u=>iC a0 a1 a2 a3 a4 a5 255 255 255 255 255 255 u
 have HTM:Hid (ru m a0 a1 a2 a3 a4 a5=((a0==(m.k0.toNat:Int) && a1==(m.k1.toNat:Int) && a2==(m.k2.toNat:Int) && a3==(m.k3.toNat:Int) && a4==(m.k4.toNat:Int) && a5==(m.k5.toNat:Int))||(a0==255 && a1==255 && a2==255 && a3==255 && a4==255 && a5==255))):=M0 rfl
 generalize(a0==(m.k0.toNat:Int) && a1==(m.k1.toNat:Int) && a2==(m.k2.toNat:Int) && a3==(m.k3.toNat:Int) && a4==(m.k4.toNat:Int) && a5==(m.k5.toNat:Int))=b1 at hq1 HTM
 generalize(a0==255 && a1==255 && a2==255 && a3==255 && a4==255 && a5==255)=b2 at hq2 HTM
 have H0:=M0 h0
 have H1:=M0 h1
 have HA:=M0 hA
 have HP:=M0 hP
 clear hE h h0 h1 hA hP
 go_enter func54,ntmps54
 go_wp2_with fail
 refine HR.mono ?_
 rintro ee u1 ⟨rfl,hb1⟩
 have HNF: ¬iq B m u1.heap.size:=fun hf=>bS _ ((HM.below hb1).ik hf)
 have HM1:=M0 ((HM.below hb1).alloc (.cells (rF a0 a1 a2 a3 a4 a5 a6 a7 a8 a9 a10 a11 ty ld) 55))
 have HR1:Hid ((u1.alloc (.cells (rF a0 a1 a2 a3 a4 a5 a6 a7 a8 a9 a10 a11 ty ld) 55)).heap[u1.heap.size]?=some (.cells (rF a0 a1 a2 a3 a4 a5 a6 a7 a8 a9 a10 a11 ty ld) 55 (0,0))):=M0 (G8 u1 _)
 clear hb1 HR HM
 by_cases hk:k=0
 ·subst hk
  obtain⟨v,hv⟩:∃v,v=u1.alloc (.cells (rF a0 a1 a2 a3 a4 a5 a6 a7 a8 a9 a10 a11 ty ld) 55):=⟨_,rfl⟩
  rw[<-hv]at HM1 HR1
  have HV:=M0 hv
  clear hv
  have HHO:∀u,Hid (Mx w0 P u B m)->Hid (b1=true∨b2=true)->∀g cap,Hid (u.heap[g]?=some (.cells #[.int .u16 2054,(.func (.func 145) #[] #[]),.int .u16 2048,(.func (.func 146) #[] #[])] 206 (0,0)))->Hid (¬iq B m g)->u1.heap.size<u.heap.size->Hid (f_ Vh 93 #[p_ B,.slice (some (a_ g 0)) 2 cap,.int .u16 ty,.string ld] u fun ee w'=>ee=.returned (.tuple #[])/\Hid (∃mz,Z mz/\Mx w0 P w' B mz)/\w'.heap[u1.heap.size]?=u.heap[u1.heap.size]?):=fun u hu hb g cap hg hf hx=>M0 (by
   have ht:ru m a0 a1 a2 a3 a4 a5=true:=by rw[gB HTM];rcases gB hb with rfl|rfl<;>simp
   refine(ah3 hu.base (HRR _ hu) HBB g cap hg hf ty ld (fun e=>HA (by trivial) ht e) (fun e=>HP (by trivial) ht e) (fun e f=>H1 (by trivial) ht e f)).mono ?_
   rintro ee w' ⟨rfl,mz,hz,hk⟩
   exact⟨rfl,M0 ⟨mz,hz,hu.join hk⟩,hk.kept _ hx HNF⟩)
  cases b1 with
  |true=>
   go_wp2
   rw[<-gB HV]
   have c1:=HM1.c1
   have c2:=HM1.c2
   have c3:=HM1.c3
   have c4:=HM1.c4
   have c5:=HM1.c5
   have c6:=HM1.c6
   obtain⟨g0,g1,g2,g3,g4,g5⟩:=HM1.YK
   obtain⟨x0,x1,x2,x3,x4,x5,x6,x7,x8,x9,x10,x11,x12,x13⟩:=jr HR1
   go_quiet (fail)
   go_wp2
   obtain⟨v2,hv2⟩:∃v2,v2=v.drewN nq:=⟨_,rfl⟩
   have HMv:Hid (Mx w0 P v2 B m):=M0 (by rw[hv2];exact HM1.like ⟨rfl,rfl,rfl,rfl⟩)
   have z12:v2.cell? (a_ u1.heap.size 12)=some (.int .u16 ty):=by rw[hv2];exact x12
   have z13:v2.cell? (a_ u1.heap.size 13)=some (.string ld):=by rw[hv2];exact x13
   rw[<-hv2]
   clear hv2 x12 x13 HM1 HR1
   clear c1 c2 c3 c4 c5 c6 g0 g1 g2 g3 g4 g5 hq1 hq2 x0 x1 x2 x3 x4 x5 x6 x7 x8 x9 x10 x11
   go_region_held3 (fun u=>u.cell? (a_ u1.heap.size 12)=some (.int .u16 ty)/\u.cell? (a_ u1.heap.size 13)=some (.string ld)) (go_keep)
    (first|(go_at_call 94;refine(Yf HMv.drew u1.heap.size _ _ (by exact z12) (by exact z13)).mono ?_;rintro ee u2 ⟨g,rfl,HM2,y12,y13,HG2,HNV⟩)|(go_at_call 93;refine(gB (HHO _ HM2 (M0 (by first|exact au rfl|exact aA rfl|simp)) _ _ HG2 HNV (aH u2 _ y12))).mono ?_;rintro ee u3 ⟨rfl,H3,hkb⟩;have w12:=(Vk hkb).trans y12;have w13:=(Vk hkb).trans y13))
   go_wp2
   go_returns
   exact⟨rfl,H3⟩
  |false=>
   cases b2 with
   |true=>
    go_wp2
    rw[<-gB HV]
    have c1:=HM1.c1
    have c2:=HM1.c2
    have c3:=HM1.c3
    have c4:=HM1.c4
    have c5:=HM1.c5
    have c6:=HM1.c6
    obtain⟨g0,g1,g2,g3,g4,g5⟩:=HM1.YK
    obtain⟨x0,x1,x2,x3,x4,x5,x6,x7,x8,x9,x10,x11,x12,x13⟩:=jr HR1
    go_quiet (fail)
    go_wp2
    obtain⟨v2,hv2⟩:∃v2,v2=v.drewN nq:=⟨_,rfl⟩
    have HMv:Hid (Mx w0 P v2 B m):=M0 (by rw[hv2];exact HM1.like ⟨rfl,rfl,rfl,rfl⟩)
    have z12:v2.cell? (a_ u1.heap.size 12)=some (.int .u16 ty):=by rw[hv2];exact x12
    have z13:v2.cell? (a_ u1.heap.size 13)=some (.string ld):=by rw[hv2];exact x13
    rw[<-hv2]
    clear hv2 x12 x13 HM1 HR1
    clear c1 c2 c3 c4 c5 c6 g0 g1 g2 g3 g4 g5 hq1 hq2 x0 x1 x2 x3 x4 x5 x6 x7 x8 x9 x10 x11
    go_region_held3 (fun u=>u.cell? (a_ u1.heap.size 12)=some (.int .u16 ty)/\u.cell? (a_ u1.heap.size 13)=some (.string ld)) (go_keep)
     (first|(go_at_call 94;refine(Yf HMv.drew u1.heap.size _ _ (by exact z12) (by exact z13)).mono ?_;rintro ee u2 ⟨g,rfl,HM2,y12,y13,HG2,HNV⟩)|(go_at_call 93;refine(gB (HHO _ HM2 (M0 (by first|exact au rfl|exact aA rfl|simp)) _ _ HG2 HNV (aH u2 _ y12))).mono ?_;rintro ee u3 ⟨rfl,H3,hkb⟩;have w12:=(Vk hkb).trans y12;have w13:=(Vk hkb).trans y13))
    go_wp2
    go_returns
    exact⟨rfl,H3⟩
   |false=>
    have HZ:=M0 (H0 (aA (by rw[gB HTM];rfl)))
    go_wp2
    rw[<-gB HV]
    have c1:=HM1.c1
    have c2:=HM1.c2
    have c3:=HM1.c3
    have c4:=HM1.c4
    have c5:=HM1.c5
    have c6:=HM1.c6
    obtain⟨g0,g1,g2,g3,g4,g5⟩:=HM1.YK
    obtain⟨x0,x1,x2,x3,x4,x5,x6,x7,x8,x9,x10,x11,x12,x13⟩:=jr HR1
    go_quiet (fail)
    go_wp2
    go_returns
    exact⟨rfl,m,HZ,HM1.like ⟨rfl,rfl,rfl,rfl⟩⟩
 ·have hkk:(k !=0)=true:=by simpa using hk
  have HZ:=M0 (H0 (au hk))
  go_wp2
  go_quiet (fail)
  go_wp2
  go_returns
  exact⟨rfl,m,HZ,HM1.like ⟨rfl,rfl,rfl,rfl⟩⟩
end Js
end Go.Proofs.YtdgacidndknceaaGreatDoor
