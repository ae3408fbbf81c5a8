import Derived.Test.YtdgacidndknceaaGreatDoorMg06
import Derived.BigCall
import Derived.BigGuard
import Derived.CellFam
import Derived.Deep.Draws
import Derived.Maps.RangeWalk
import Derived.Sort.LotA
import Derived.Sort.Row
set_option linter.all false
set_option maxHeartbeats 4000000
set_option maxRecDepth 100000
open Go.ChangeShapes Go.WideShapes Go.ChangeAt Go.RowKit
open Go renaming World → fV, Calls → f_
open Go.RowKit renaming Below → gm
open Go.Proofs.Tryz renaming prog → Vh
open Go.Proofs.Tryz
namespace Go.Proofs.YtdgacidndknceaaGreatDoor
namespace Js
open Bs
variable{w0:fV} {P:Nat→Prop} {w w':fV} {B:Nat} {m m':Mc}
structure Nb where
 asks:Int
 k0:UInt8
 k1:UInt8
 k2:UInt8
 k3:UInt8
 k4:UInt8
 k5:UInt8
 till:Int
 load:ByteArray
def Nb.v(n:Nb):Value:=.agg (rM n.asks n.k0.toNat n.k1.toNat n.k2.toNat n.k3.toNat n.k4.toNat n.k5.toNat n.till n.load)
def Nb.d(n:Nb):DataW Unit:=.agg [.lit (.int .i64 n.asks),.lit (.int .u8 n.k0.toNat),.lit (.int .u8 n.k1.toNat),.lit (.int .u8 n.k2.toNat),.lit (.int .u8 n.k3.toNat),.lit (.int .u8 n.k4.toNat),.lit (.int .u8 n.k5.toNat),.lit (.int .i64 n.till),.lit (.string n.load.data.toList)]
def bC:Nb:=⟨0,0,0,0,0,0,0,0,⟨#[]⟩⟩
theorem aN4(n:Nb):Qz n.v=some (n.d,[]):=rfl
theorem aF5{v:Value}{n:Nb}{ps:List MemPlace}(h:Qz v=some (n.d,ps)):v=n.v:=by
 unfold Qz at h
 split at h
 ·rename_i cs
  split at h
  ·rename_i a k0 k1 k2 k3 k4 k5 u s hcs
   simp only[bq6,Prod.mk.injEq,Nb.d,DataW.agg.injEq,rO,yf,Cm,Lit.string.injEq]at h;obtain⟨⟨⟨_,rfl⟩,⟨_,rfl⟩,⟨_,rfl⟩,⟨_,rfl⟩,⟨_,rfl⟩,⟨_,rfl⟩,⟨_,rfl⟩,⟨_,rfl⟩,hs,_⟩,_⟩:=h;have e:s=n.load:=by
    cases s;cases hl:n.load
    rw[hl]at hs;simp at hs;rw[hs]
   subst e;have:cs=(rM n.asks n.k0.toNat n.k1.toNat n.k2.toNat n.k3.toNat n.k4.toNat n.k5.toNat n.till n.load):=by
    rw[<-Array.toList_inj,hcs]
   rw[this];rfl
  simp at h
 simp at h
theorem aG2(a:Int)(h:0<=a/\a<=4294967295):keyOf Vh 36 (.int .u32 a)=some (.int .u32 a):=Maps.keyOf_int_mk bt8 (WalkArith.wf_u32 h)
theorem YE{bm n:Nat}{D:DataW Unit}(h:w.ownsMap Vh 36 Qz bm n D)(a:Int)(ha:0<=a/\a<=4294967295)(x:Nb)(hx:D.atKey (.int .u32 a) bC.d=x.d):
  (Instr.lookup 102 (.map (some bm)) (.int .u32 a) true).run Vh w=.ok (.tuple #[x.v,.bool (Maps.has D (.int .u32 a))]) w:=by
 obtain⟨v,ps,h1,h2⟩:=h.look_ok (bu6 bt8) bu1 (VM w) (zd:=bC.d) (zp:=[]) rfl (aG2 a ha);rw[hx]at h2;rw[h1,aF5 h2]
theorem aa7{bm n n':Nat}{D:DataW Unit}(h:w.ownsMap Vh 36 Qz bm n D)(hs:Maps.size D<=n'):w.ownsMap Vh 36 Qz bm n' D:=by
 obtain⟨es,clock,hb,F,hz,rfl⟩:=h;refine⟨es,clock,hb,F,?_,rfl⟩;have e1:Maps.size (DataW.map ((es.toList.map (WideElems.rg Vh 36 Qz)).foldr DataW.insert []))=es.size:=by simp[Maps.size,DataW.length_sorted]
 omega
structure PU (w w':fV) (b:Nat):Prop where
 os:w'.os=w.os
 tape:w'.tape=w.tape
 output:w'.output=w.output
 size:w.heap.size<=w'.heap.size
 block:∀k,k<w.heap.size->k≠b->w'.heap[k]?=w.heap[k]?
theorem PU.of{u u':fV}{b:Nat}(hb:gm w.heap.size w u)(ht:u.mapTurned u' b):PU w u' b:=by
 obtain⟨es,c,es',c',h1,rfl⟩:=ht;exact⟨hb.os,hb.tape,hb.output,by simpa[ChangeMaps.setBlock]using hb.size,fun k hk hn=>(ChangeMaps.heap_setBlock_other h1 _ hn).trans (hb.block k hk)⟩
theorem Mx.ae3(h:Mx w0 P w B m){k:Nat}{a:Array Value}{t:TypeId}{z:Nat×Nat}(hk:w.heap[k]?=some (.cells a t z)):k≠m.bm:=by
 rintro rfl;obtain⟨es,c,h1,_⟩:=h.map;rw[hk]at h1;simp at h1
theorem Mx.mapped(h:Mx w0 P w B m)(t:PU w w' m.bm){D:DataW Unit}(ho:w'.ownsMap Vh 36 Qz m.bm 4 D):Mx w0 P w' B {m with cd:=D}:=
 {os:=t.os.trans h.os,tape:=t.tape.trans h.tape,output:=t.output.trans h.output,size:=bo6 h.size t.size
  kept:=fun k hk hP=>(t.block k (bo9 hk h.size) (by
   rintro rfl
   rcases h.own m.bm (bo3 (bo1 rfl))with e|e
   ·exact hP e
   omega)).trans (h.kept k hk hP)
  own:=h.own,low:=h.low,gl:=h.gl
  row:=(t.block B h.lt h.aW.symm).trans h.row
  map:=ho
  came:=h.came.other (t.block _ h.came.lt (by obtain⟨_,_,_,_,arr,h1,_⟩:=h.came;exact h.ae3 h1))
  goes:=h.goes.other (t.block _ h.goes.lt (by obtain⟨_,_,_,_,arr,h1,_⟩:=h.goes;exact h.ae3 h1))
  apart:=h.apart
  image:=iN h.image (fun k hk=>t.block k (h.image.lt k hk).2 (by
   rcases h.image.2 with⟨h1,_⟩|⟨g,cap,cur,e1,e2,e3,e4⟩
   ·rw[h1]at hk;cases hk
   rw[e1]at hk;have:g=k:=bp4 hk;subst this;exact h.ae3 e3))}
theorem aw4{bm:Nat}{D:DataW Unit}(hown:w.ownsMap Vh 36 Qz bm 4 D)(a:Int)(ha:0<=a/\a<=4294967295)(n x:Nb)(hx:D.atKey (.int .u32 a) bC.d=x.d)
  (hroom:Maps.has D (.int .u32 a)=true∨Maps.has D (.int .u32 a)=false/\Maps.size D<4) (hs:Maps.size (D.put (.int .u32 a) n.d)<=4):
  f_ Vh 134 #[.map (some bm),.int .u32 a,n.v] w fun ee w'=>ee=.returned (.tuple #[])/\w'.ownsMap Vh 36 Qz bm 4 (D.put (.int .u32 a) n.d)/\PU w w' bm:=by
 have hlt:=JA hown;obtain⟨o1,ho1⟩:=ex_ (Obj.cells (rM n.asks n.k0.toNat n.k1.toNat n.k2.toNat n.k3.toNat n.k4.toNat n.k5.toNat n.till n.load) 157 (0,0));have hL:(Instr.lookup 102 (.map (some bm)) (.int .u32 a) true).run Vh (w.alloc o1)=.ok (.tuple #[x.v,.bool (Maps.has D (.int .u32 a))]) (w.alloc o1):=YE (oP hown (bn8 w _ _ hlt)) a ha x hx;have HK:=Fe (aG2 a ha);have HR:=Fe (aN4 n);rw[ho1]at hL;unfold Nb.v at hL HR ⊢;have HB:Hid (∀o2:Obj,((w.alloc o1).alloc o2).heap[bm]?=w.heap[bm]?):=Fe (fun o2=>(bn8 (w.alloc o1) _ _ (by simp;omega)).trans (bn8 w _ _ hlt));have HBL:Hid (∀o2:Obj,gm w.heap.size w ((w.alloc o1).alloc o2)):=Fe (fun o2=>((bn9 _ _).alloc (bn7 _) o1).alloc (by simp) o2);rw[ho1]at HB HBL;clear ho1
 rcases hroom with hr|⟨hr,hr4⟩
 ·rw[hr]at hL
  go_enter func134,ntmps134;go_wp2_with (first|(at_mapUpdate;refine wpList_mapUpdate_in _ rfl _ _ _ 102 rfl 36 157 (bu6 bt8) bu1 Qz bm 4 D rfl (oP hown (HB _)) (by decide) _ _ _ rfl rfl HK n.d [] (gB HR) ?_;intro w1 hown1 hturn1)|go_in);go_end0;exact⟨rfl,aa7 hown1 hs,PU.of (HBL _) hturn1⟩
 rw[hr]at hL;have HN:Hid (∀o2:Obj,∀ty,(Builtin.len_ #[102] ty #[.map (some bm)]).run Vh ((w.alloc (.cells (rM n.asks n.k0.toNat n.k1.toNat n.k2.toNat n.k3.toNat n.k4.toNat n.k5.toNat n.till n.load) 157 (0,0))).alloc o2)=.ok (.int .i64 (Maps.size D)) ((w.alloc (.cells (rM n.asks n.k0.toNat n.k1.toNat n.k2.toNat n.k3.toNat n.k4.toNat n.k5.toNat n.till n.load) 157 (0,0))).alloc o2)):=Fe (fun o2 ty=>(oP hown (HB o2)).len bu1 ty);have hN:=HN (.cells (rM x.asks x.k0.toNat x.k1.toNat x.k2.toNat x.k3.toNat x.k4.toNat x.k5.toNat x.till x.load) 157 (0,0)) 3;obtain⟨z,hz⟩:∃z:Int,z=(Maps.size D:Int):=⟨_,rfl⟩;have hz4:z≠4:=by omega
 rw[<-hz]at hN;have hzb:(z==4)=false:=by simpa using hz4
 clear hz HN;go_enter func134,ntmps134;go_wp2_with (first|(at_mapUpdate;refine wpList_mapUpdate_in _ rfl _ _ _ 102 rfl 36 157 (bu6 bt8) bu1 Qz bm 4 D rfl (oP hown (HB _)) (by decide) _ _ _ rfl rfl HK n.d [] (gB HR) ?_;intro w1 hown1 hturn1)|go_in);go_end0;exact⟨rfl,aa7 hown1 hs,PU.of (HBL _) hturn1⟩
def Room(D:DataW Unit)(a:Int):Prop:=(0<=a/\a<=4294967295)/\(∃x:Nb,D.atKey (.int .u32 a) bC.d=x.d)/\(Maps.has D (.int .u32 a)=true∨Maps.has D (.int .u32 a)=false/\Maps.size D<4)/\∀d,Maps.size (D.put (.int .u32 a) d)<=4
def Mc.keep(m:Mc)(a:Int)(n:Nb):Mc:={m with cd:=m.cd.put (.int .u32 a) n.d}
theorem PU.cells{w w':fV}{b k:Nat}(t:PU w w' b){o:Obj}(hk:w.heap[k]?=some o)(hn:k≠b):w'.heap[k]?=some o:=(t.block k (gG hk) hn).trans hk
theorem Z6(h:Mx w0 P w B m){a:Int}(hr:Room m.cd a)(n:Nb):f_ Vh 134 #[.map (some m.bm),.int .u32 a,n.v] w fun ee w'=>ee=.returned (.tuple #[])/\Mx w0 P w' B (m.keep a n)/\PU w w' m.bm:=by
 obtain⟨ha,⟨x,hx⟩,h1,h2⟩:=hr;refine on_ (aw4 h.map a ha n x hx h1 (h2 _)) ?_;rintro w' ⟨ho,ht⟩;exact⟨rfl,h.mapped ht ho,ht⟩
end Js
namespace Js
open Bs
open Dh (gU gT jM kr iV ib lM heavy)
variable{w0:fV} {P:Nat→Prop} {w w':fV} {B:Nat} {m m':Mc}
def Mc.qD(m:Mc):gU:=[(50,g_ m.iB),(54,g_ m.iO)]
theorem yu(h:Mx w0 P w B m)(ho:m.Ok):f_ Vh 139 #[p_ B] w fun ee w'=>∃g,ee=.returned (.slice (some (a_ g 0)) 2 2)/\Mx w0 P w' B m/\w'.heap[g]?=some (.cells (gT m.qD).toArray 138 (0,0)):=by
 have HM:=Fe h;have HO:=Fe ho;have HK:Hid (∀u,gm w.heap.size w u->u.cell? (a_ B 27)=some (.int .u32 m.iB)/\u.cell? (a_ B 28)=some (.int .u32 m.iO)):=Fe (fun u hb=>⟨(h.below hb).uF,(h.below hb).c28⟩);have hlt:=h.lt;clear h ho;go_enter func139,ntmps139;go_wp2;refine wp_region_held_drew (S:=fun u=>u.cell? (a_ B 27)=some (.int .u32 m.iB)/\u.cell? (a_ B 28)=some (.int .u32 m.iO)) (by kernel_rfl) (HK _ ((bn9 _ _).drew)) (fun hHeld=> ?_);refine tkH_ (i:=0) (v:=(p_ B)) rfl (by kernel_rfl) (fun _ _ _ h=>h) (bo1 ⟨by rfl,?_⟩) hHeld ?_
 ·(intro wz hSz;go_simp)
 try simp only[Act.put,bm7,bm8,bm9]
 refine tkH_ (i:=1) (v:=(p_ B)) rfl (by kernel_rfl) (fun _ _ _ h=>h) (bo1 ⟨by rfl,?_⟩) hHeld ?_
 ·(intro wz hSz;go_simp)
 try simp only[Act.put,bm7,bm8,bm9]
 refine tkH_ (i:=2) (v:=(.pointer (some (a_ B 25)))) rfl (by kernel_rfl) (fun _ _ _ h=>h) (bo1 ⟨by rfl,?_⟩) hHeld ?_
 ·(intro wz hSz;go_simp)
 try simp only[Act.put,bm7,bm8,bm9]
 refine tkH_ (i:=3) (v:=(.pointer (some (a_ B 27)))) rfl (by kernel_rfl) (fun _ _ _ h=>h) (bo1 ⟨by rfl,?_⟩) hHeld ?_
 ·(intro wz hSz;go_simp)
 try simp only[Act.put,bm7,bm8,bm9]
 refine tkH_ (i:=4) (v:=(.int .u32 m.iB)) rfl (by kernel_rfl) (fun _ _ _ h=>h) (bo1 ⟨by rfl,?_⟩) hHeld ?_
 ·(intro wz hSz;go_simp)
 try simp only[Act.put,bm7,bm8,bm9]
 refine tkH_ (i:=7) (v:=(p_ B)) rfl (by kernel_rfl) (fun _ _ _ h=>h) (bo1 ⟨by rfl,?_⟩) hHeld ?_
 ·(intro wz hSz;go_simp)
 try simp only[Act.put,bm7,bm8,bm9]
 refine tkH_ (i:=8) (v:=(p_ B)) rfl (by kernel_rfl) (fun _ _ _ h=>h) (bo1 ⟨by rfl,?_⟩) hHeld ?_
 ·(intro wz hSz;go_simp)
 try simp only[Act.put,bm7,bm8,bm9]
 refine tkH_ (i:=9) (v:=(.pointer (some (a_ B 25)))) rfl (by kernel_rfl) (fun _ _ _ h=>h) (bo1 ⟨by rfl,?_⟩) hHeld ?_
 ·(intro wz hSz;go_simp)
 try simp only[Act.put,bm7,bm8,bm9]
 refine tkH_ (i:=10) (v:=(.pointer (some (a_ B 28)))) rfl (by kernel_rfl) (fun _ _ _ h=>h) (bo1 ⟨by rfl,?_⟩) hHeld ?_
 ·(intro wz hSz;go_simp)
 try simp only[Act.put,bm7,bm8,bm9]
 refine tkH_ (i:=11) (v:=(.int .u32 m.iO)) rfl (by kernel_rfl) (fun _ _ _ h=>h) (bo1 ⟨by rfl,?_⟩) hHeld ?_
 ·(intro wz hSz;go_simp)
 try simp only[Act.put,bm7,bm8,bm9]
 refine wpAnyH_ready (rs:=[5,12]) (by kernel_rfl) (by simp) ?_;refine AllReadyH.cons rfl (fun K hK=> ?_) (AllReadyH.cons rfl (fun K hK=> ?_) AllReadyH.nil)
 ·go_simp
  clear hHeld;refine hK.out _ _ ?_ (fun hHeld=> ?_)
  ·exact HK _ (by(repeat (first|exact bn9 _ _|(refine by9 ?_)|(refine bv5 ?_ (by first|(simp;done)|(simp;omega)) _))))
  clear hK K;try simp only[Act.put,bm7,bm8,bm9]
  refine wpAnyH_ready (rs:=[6,12]) (by kernel_rfl) (by simp) ?_;refine AllReadyH.cons rfl (fun K hK=> ?_) (AllReadyH.cons rfl (fun K hK=> ?_) AllReadyH.nil)
  ·go_simp
   refine on_ (jJ 50 m.iB w.heap.size _ (bn3 w (.cells #[.int .u32 m.iB] 36)) HO.iB) fun u1 hb1=>?_;have hw1:gm w.heap.size w u1:=bC0 (by(repeat (first|exact bn9 _ _|(refine by9 ?_)|(refine bv5 ?_ (by first|(simp;done)|(simp;omega)) _)))) (hb1.mono (by first|(simp;done)|(simp;omega)));have HW1:=Fe hw1;clear hb1 hw1;go_wp2_with fail;clear hHeld;refine hK.out _ _ ?_ (fun hHeld=> ?_)
   ·exact HK _ HW1
   clear hK K;try simp only[Act.put,bm7,bm8,bm9]
   refine wpAnyH_ready (rs:=[12]) (by kernel_rfl) (by simp) ?_;refine AllReadyH.cons rfl (fun K hK=> ?_) AllReadyH.nil;go_simp
   clear hHeld;refine hK.out _ _ ?_ (fun hHeld=> ?_)
   ·exact HK _ (HW1.alloc HW1.size _)
   clear hK K;try simp only[Act.put,bm7,bm8,bm9]
   refine wpAnyH_ready (rs:=[13]) (by kernel_rfl) (by simp) ?_;refine AllReadyH.cons rfl (fun K hK=> ?_) AllReadyH.nil;go_simp
   refine on_ (jJ 54 m.iO u1.heap.size _ (bn3 u1 (.cells #[.int .u32 m.iO] 36)) HO.iO) fun u2 hb2=>?_;have hw2:gm w.heap.size w u2:=bC0 (HW1.alloc HW1.size _) (hb2.mono (by have:=HW1.size;first|omega|(simp;omega)));have HW2:=Fe hw2;clear hb2 hw2;go_wp2_with fail;clear hHeld;refine hK.out _ _ ?_ (fun hHeld=> ?_)
   ·exact HK _ HW2
   clear hK K;try simp only[Act.put,bm7,bm8,bm9]
   refine wpAnyH_ready (rs:=[14]) (by kernel_rfl) (by simp) ?_;refine AllReadyH.cons rfl (fun K hK=> ?_) AllReadyH.nil;go_simp
   clear hHeld;refine hK.out _ _ ?_ (fun hHeld=> ?_)
   ·exact HK _ (HW2.alloc HW2.size _)
   clear hK K;try simp only[Act.put,bm7,bm8,bm9]
   refine wpAnyH_ready (rs:=[15]) (by kernel_rfl) (by simp) ?_;refine AllReadyH.cons rfl (fun K hK=> ?_) AllReadyH.nil;go_simp
   clear hHeld;refine hK.out _ _ ?_ (fun hHeld=> ?_)
   ·exact HK _ (HW2.alloc HW2.size _)
   clear hK K;try simp only[Act.put,bm7,bm8,bm9]
   refine bw0 (by kernel_rfl) ?_ _;have HF:=Fe ((HM.below HW2).alloc (.cells #[.int .u8 50,.string ⟨(g_ m.iB).toArray⟩,.int .u8 54,.string ⟨(g_ m.iO).toArray⟩] 138));have HR:=Fe (bn3 u2 (.cells #[.int .u8 50,.string ⟨(g_ m.iB).toArray⟩,.int .u8 54,.string ⟨(g_ m.iO).toArray⟩] 138));clear hHeld;go_wp2;go_ret;exact⟨_,rfl,HF,HR⟩
  go_simp
  clear hHeld;refine hK.out _ _ ?_ (fun hHeld=> ?_)
  ·exact HK _ (by(repeat (first|exact bn9 _ _|(refine by9 ?_)|(refine bv5 ?_ (by first|(simp;done)|(simp;omega)) _))))
  clear hK K;try simp only[Act.put,bm7,bm8,bm9]
  refine wpAnyH_ready (rs:=[6]) (by kernel_rfl) (by simp) ?_;refine AllReadyH.cons rfl (fun K hK=> ?_) AllReadyH.nil;go_simp
  refine on_ (jJ 50 m.iB w.heap.size _ (nA w (.cells #[.int .u32 m.iB] 36) (.cells #[.int .u32 m.iO] 36)) HO.iB) fun u1 hb1=>?_;have hw1:gm w.heap.size w u1:=bC0 (by(repeat (first|exact bn9 _ _|(refine by9 ?_)|(refine bv5 ?_ (by first|(simp;done)|(simp;omega)) _)))) (hb1.mono (by first|(simp;done)|(simp;omega)));have HW1:=Fe hw1;have HG2:Hid (u1.heap[w.heap.size+1]?=some (.cells #[.int .u32 m.iO] 36 (0,0))):=Fe ((hb1.block (w.heap.size+1) (by first|(simp;done)|(simp;omega))).trans (jq w (.cells #[.int .u32 m.iB] 36) (.cells #[.int .u32 m.iO] 36)));clear hb1 hw1;go_wp2_with fail;clear hHeld;refine hK.out _ _ ?_ (fun hHeld=> ?_)
  ·exact HK _ HW1
  clear hK K;try simp only[Act.put,bm7,bm8,bm9]
  refine wpAnyH_ready (rs:=[13]) (by kernel_rfl) (by simp) ?_;refine AllReadyH.cons rfl (fun K hK=> ?_) AllReadyH.nil;go_simp
  refine on_ (jJ 54 m.iO (w.heap.size+1) _ HG2 HO.iO) fun u2 hb2=>?_;have hw2:gm w.heap.size w u2:=bC0 HW1 (hb2.mono (by have:=HW1.size;first|omega|(simp;omega)));have HW2:=Fe hw2;clear hb2 hw2;go_wp2_with fail;clear hHeld;refine hK.out _ _ ?_ (fun hHeld=> ?_)
  ·exact HK _ HW2
  clear hK K;try simp only[Act.put,bm7,bm8,bm9]
  refine wpAnyH_ready (rs:=[14]) (by kernel_rfl) (by simp) ?_;refine AllReadyH.cons rfl (fun K hK=> ?_) AllReadyH.nil;go_simp
  clear hHeld;refine hK.out _ _ ?_ (fun hHeld=> ?_)
  ·exact HK _ (HW2.alloc HW2.size _)
  clear hK K;try simp only[Act.put,bm7,bm8,bm9]
  refine wpAnyH_ready (rs:=[15]) (by kernel_rfl) (by simp) ?_;refine AllReadyH.cons rfl (fun K hK=> ?_) AllReadyH.nil;go_simp
  clear hHeld;refine hK.out _ _ ?_ (fun hHeld=> ?_)
  ·exact HK _ (HW2.alloc HW2.size _)
  clear hK K;try simp only[Act.put,bm7,bm8,bm9]
  refine bw0 (by kernel_rfl) ?_ _;have HF:=Fe ((HM.below HW2).alloc (.cells #[.int .u8 50,.string ⟨(g_ m.iB).toArray⟩,.int .u8 54,.string ⟨(g_ m.iO).toArray⟩] 138));have HR:=Fe (bn3 u2 (.cells #[.int .u8 50,.string ⟨(g_ m.iB).toArray⟩,.int .u8 54,.string ⟨(g_ m.iO).toArray⟩] 138));clear hHeld;go_wp2;go_ret;exact⟨_,rfl,HF,HR⟩
 go_simp
 clear hHeld;refine hK.out _ _ ?_ (fun hHeld=> ?_)
 ·exact HK _ (by(repeat (first|exact bn9 _ _|(refine by9 ?_)|(refine bv5 ?_ (by first|(simp;done)|(simp;omega)) _))))
 clear hK K;try simp only[Act.put,bm7,bm8,bm9]
 refine wpAnyH_ready (rs:=[5]) (by kernel_rfl) (by simp) ?_;refine AllReadyH.cons rfl (fun K hK=> ?_) AllReadyH.nil;go_simp
 clear hHeld;refine hK.out _ _ ?_ (fun hHeld=> ?_)
 ·exact HK _ (by(repeat (first|exact bn9 _ _|(refine by9 ?_)|(refine bv5 ?_ (by first|(simp;done)|(simp;omega)) _))))
 clear hK K;try simp only[Act.put,bm7,bm8,bm9]
 refine wpAnyH_ready (rs:=[6]) (by kernel_rfl) (by simp) ?_;refine AllReadyH.cons rfl (fun K hK=> ?_) AllReadyH.nil;go_simp
 refine on_ (jJ 50 m.iB (w.heap.size+1) _ (jq w (.cells #[.int .u32 m.iO] 36) (.cells #[.int .u32 m.iB] 36)) HO.iB) fun u1 hb1=>?_;have hw1:gm w.heap.size w u1:=bC0 (by(repeat (first|exact bn9 _ _|(refine by9 ?_)|(refine bv5 ?_ (by first|(simp;done)|(simp;omega)) _)))) (hb1.mono (by first|(simp;done)|(simp;omega)));have HW1:=Fe hw1;have HG2:Hid (u1.heap[w.heap.size]?=some (.cells #[.int .u32 m.iO] 36 (0,0))):=Fe ((hb1.block w.heap.size (by first|(simp;done)|(simp;omega))).trans (nA w (.cells #[.int .u32 m.iO] 36) (.cells #[.int .u32 m.iB] 36)));clear hb1 hw1;go_wp2_with fail;clear hHeld;refine hK.out _ _ ?_ (fun hHeld=> ?_)
 ·exact HK _ HW1
 clear hK K;try simp only[Act.put,bm7,bm8,bm9]
 refine wpAnyH_ready (rs:=[13]) (by kernel_rfl) (by simp) ?_;refine AllReadyH.cons rfl (fun K hK=> ?_) AllReadyH.nil;go_simp
 refine on_ (jJ 54 m.iO w.heap.size _ HG2 HO.iO) fun u2 hb2=>?_;have hw2:gm w.heap.size w u2:=bC0 HW1 (hb2.mono (by have:=HW1.size;first|omega|(simp;omega)));have HW2:=Fe hw2;clear hb2 hw2;go_wp2_with fail;clear hHeld;refine hK.out _ _ ?_ (fun hHeld=> ?_)
 ·exact HK _ HW2
 clear hK K;try simp only[Act.put,bm7,bm8,bm9]
 refine wpAnyH_ready (rs:=[14]) (by kernel_rfl) (by simp) ?_;refine AllReadyH.cons rfl (fun K hK=> ?_) AllReadyH.nil;go_simp
 clear hHeld;refine hK.out _ _ ?_ (fun hHeld=> ?_)
 ·exact HK _ (HW2.alloc HW2.size _)
 clear hK K;try simp only[Act.put,bm7,bm8,bm9]
 refine wpAnyH_ready (rs:=[15]) (by kernel_rfl) (by simp) ?_;refine AllReadyH.cons rfl (fun K hK=> ?_) AllReadyH.nil;go_simp
 clear hHeld;refine hK.out _ _ ?_ (fun hHeld=> ?_)
 ·exact HK _ (HW2.alloc HW2.size _)
 clear hK K;try simp only[Act.put,bm7,bm8,bm9]
 refine bw0 (by kernel_rfl) ?_ _;have HF:=Fe ((HM.below HW2).alloc (.cells #[.int .u8 50,.string ⟨(g_ m.iB).toArray⟩,.int .u8 54,.string ⟨(g_ m.iO).toArray⟩] 138));have HR:=Fe (bn3 u2 (.cells #[.int .u8 50,.string ⟨(g_ m.iB).toArray⟩,.int .u8 54,.string ⟨(g_ m.iO).toArray⟩] 138));clear hHeld;go_wp2;go_ret;exact⟨_,rfl,HF,HR⟩
theorem zU(m:Mc):heavy m.qD<=1000:=by simp[heavy,Mc.qD,g_,iY,iy]
theorem Df(h:Mx w0 P w B m)(ho:m.Ok)(kb:UInt8)(hk4:kb.toNat≠4)(g:Nat)(os:gU)(hg:w.heap[g]?=some (.cells (gT os).toArray 138 (0,0)))(hl:os.length<=4)(hh:heavy os<=1000):
  f_ Vh 138 #[p_ B,.int .u8 kb.toNat,.slice (some (a_ g 0)) os.length os.length] w fun ee w'=>
   ee=.returned (.tuple #[])/\Mx w0 P w' B (m.say kb os):=by
 have HS:=Fe (Io h ho kb hk4 g os hg hl hh);have hz:=af5 false m.gF m.addr 0 0 m.card (kY kb os);have HE:Hid (m.say kb os=m.Cz 68 67 (m.qz kb os)):=Fe rfl;obtain⟨L,hL⟩:=ex_ (m.qz kb os);have hLz:L.size<=1472:=by rw[hL];exact hz
 rw[<-hL]at HS HE;obtain⟨n,hn⟩:=ex_ os.length;rw[<-hn]at HS ⊢;clear h hk4 hL hz hn hg hl hh;go_enter func138,ntmps138;go_wp2_with fail;refine on_ HS fun u hu=>?_;have HU:=Fe hu;clear hu HS;go_wp2_with fail;refine on_ (xP HU ho 68 67 L (by omega) (by omega) (by omega)) fun u2 hu2=>?_;have HU2:=Fe hu2;clear hu2 HU;go_wp2;go_end0;rw[gB HE];exact⟨rfl,HU2⟩
theorem bj3(h:Mx w0 P w B m)(ho:m.Ok)(hst:m.st=2)(hw:m.ws<=3):f_ Vh 88 #[p_ B] w fun ee w'=>ee=.returned (.tuple #[])/\Mx w0 P w' B (m.jR.say 3 m.qD):=by
 have HM:=Fe h;have aT1:=h.aT1;have yE:=h.yE;have HW:=Fe (wJ h ho m.ws m.wu ho.ws);have HO:=Fe (ho.jR hw);clear h;go_enter func88,ntmps88;go_wp2_with fail;refine on_ HW fun u hu=>?_;have d29:=hu.aT1;have g29:=hu.free 29;have d30:=hu.yE;have g30:=hu.free 30;have d25:=hu.nk;rw[hst]at d25;have HU:=Fe ((hu.SE (m.ws+1)).aO3 (wrap64 (m.now+m.Ez m.ws)));clear hu HW;go_wp2_with fail;refine(yu HU HO).mono ?_;rintro ee u1 ⟨g,rfl,hu1,hg1⟩;have HU1:=Fe hu1;have HG1:=Fe hg1;clear hu1 hg1 HU;go_wp2_with fail;refine on_ (Df HU1 HO 3 (by decide) g m.qD HG1 (by show(2:Nat)<=4;omega) (zU m)) fun u2 hu2=>?_;have HU2:=Fe hu2;clear hu2 HU1;go_wp2;go_end0;exact⟨rfl,HU2⟩
def Mc.Lm(m:Mc):Mc:=if m.now<m.wu then m else if m.ws=4 then m.fail else m.jR.say 3 m.qD
theorem DX(h:Mx w0 P w B m)(ho:m.Ok)(hst:m.st=2):f_ Vh 87 #[p_ B,.agg #[.int .i64 m.ws,.int .i64 m.wu],.func (.func 88) #[] #[]] w fun ee w'=>ee=.returned (.tuple #[])/\∃b,Mx w0 P w' B (m.Lm.at b):=by
 have HM:=Fe (h.alloc (.cells #[.int .i64 m.ws,.int .i64 m.wu] 107));have c14:=h.c14;have hlt:=h.lt;clear h
 by_cases h1:m.now<m.wu
 ·have HE:Hid (m.Lm=m):=Fe (by unfold Mc.Lm;rw[bp0 h1])
  go_enter func87,ntmps87;go_wp2;go_quiet (fail);go_wp2;go_end0;refine⟨rfl,m.bm,?_⟩;rw[gB HE,mi];exact HM.like ⟨rfl,rfl,rfl,rfl⟩
 by_cases h2:m.ws=4
 ·have HE:Hid (m.Lm=m.fail):=Fe (by unfold Mc.Lm;rw[bo4 h1,bp0 h2])
  have HF:=fun(k:Nat)=>Fe (oM (w:=(w.alloc (.cells #[.int .i64 m.ws,.int .i64 m.wu] 107)).drewN k) (HM.like ⟨rfl,rfl,rfl,rfl⟩));clear HM;have h2b:(m.ws==4)=true:=by simpa using h2
  rw[h2]at HF ⊢;clear h2 h2b;go_enter func87,ntmps87;go_wp2;go_quiet (fail);go_wp2_with fail;refine on_ (gB (HF _)) ?_;rintro u ⟨b,hu⟩;have HU:=Fe hu;clear hu HF;go_wp2;go_end0;refine⟨rfl,b,?_⟩;rw[gB HE];exact HU
 have HE:Hid (m.Lm=m.jR.say 3 m.qD):=Fe (by unfold Mc.Lm;rw[bo4 h1,bo4 h2]);have HF:=fun(k:Nat)=>Fe (bj3 (w:=(w.alloc (.cells #[.int .i64 m.ws,.int .i64 m.wu] 107)).drewN k) (HM.like ⟨rfl,rfl,rfl,rfl⟩) ho hst (by have:=ho.ws;omega));clear HM;have h2b:(m.ws==4)=false:=by simpa using h2
 clear h2;go_enter func87,ntmps87;go_wp2;go_quiet (fail);go_wp2_with fail;refine on_ (gB (HF _)) fun u hu=>?_;have HU:=Fe hu;clear hu HF;go_wp2;go_end0;refine⟨rfl,(m.jR.say 3 m.qD).bm,?_⟩;rw[gB HE,mi];exact HU
theorem bi8(h:Mx w0 P w B m)(ho:m.Ok)(hst:m.st=2):f_ Vh 50 #[p_ B] w fun ee w'=>ee=.returned (.tuple #[])/\∃b,Mx w0 P w' B (m.Lm.at b):=by
 have nk:=h.nk;rw[hst]at nk;have aT1:=h.aT1;have yE:=h.yE;have HT:=Fe (DX h ho hst);clear h;go_enter func50,ntmps50;go_wp2_with fail;refine on_ HT ?_;rintro u ⟨b,hu⟩;have HU:=Fe hu;clear hu HT;go_wp2;go_end0;exact⟨rfl,b,HU⟩
def Mc.oV(m:Mc):Mc:={m with st:=2,ws:=0,wu:=0}
theorem Mc.Ok.oV{m:Mc}(h:m.Ok):m.oV.Ok:=by
 obtain⟨a1,a2,a3,a4,a5,a6,a7,a8,a9,a10,a11,a12,a13,a14,a15,a16⟩:=h;exact⟨a1,a2,a3,a4,a5,by show(0:Int)<=0/\(0:Int)<=4;omega,a7,a8,a9,a10,a11,a12,a13,a14,a15,a16⟩
theorem au5(h:Mx w0 P w B m)(ho:m.Ok):f_ Vh 86 #[p_ B,.int .i64 2] w fun ee w'=>ee=.returned (.tuple #[])/\Mx w0 P w' B (m.oV.jR.say 3 m.qD):=by
 have nk:=h.nk;have f25:=h.free 25;have aT1:=h.aT1;have f29:=h.free 29;have yE:=h.yE;have f30:=h.free 30;have HM:=Fe (((h.TN 2).SE 0).aO3 0);clear h;go_enter func86,ntmps86;go_wp2_with fail;refine on_ (bj3 (m:=m.oV) HM ho.oV rfl (by show(0:Int)<=3;omega)) fun u hu=>?_;have HU:=Fe hu;clear hu HM;go_wp2;go_end0;exact⟨rfl,HU⟩
end Js
namespace Js
open Bs
variable{w0:fV} {P:Nat→Prop} {w w':fV} {B:Nat} {m m':Mc}
def Mc.Ej(m:Mc)(a:Int):ByteArray:=WM.vE 1 m.card 0 [0,0,0,0,0,0] a
theorem Cq(op:Int)(fm:List UInt8)(hf:fm.length=6)(fi:Int)(tm:List UInt8)(ht:tm.length=6)(ti:Int):(WM.vE op fm fi tm ti).size<=1500:=by
 unfold WM.vE
 split
 ·show(WM.GJ op fm fi tm ti).toArray.size<=1500
  simp[WM.GJ,iy,g_,iY,hf,ht]
 decide
def Mc.ask(m:Mc)(a:Int):Mc:=m.send [255,255,255,255,255,255] 2054 (m.Ej a)
theorem NN{u:fV}{g:Nat}{t:TypeId}{b0 b1 b2 b3 b4 b5 b6 b7 b8 b9 b10 b11 b12 b13 b14:Value}(h:u.heap[g]?=some (.cells #[b0,b1,b2,b3,b4,b5,b6,b7,b8,b9,b10,b11,b12,b13,b14] t (0,0))):
  u.cell? (a_ g 0)=some b0/\u.cell? (a_ g 1)=some b1/\u.cell? (a_ g 2)=some b2/\u.cell? (a_ g 3)=some b3/\u.cell? (a_ g 4)=some b4/\u.cell? (a_ g 5)=some b5/\u.cell? (a_ g 6)=some b6/\u.cell? (a_ g 7)=some b7/\u.cell? (a_ g 8)=some b8/\u.cell? (a_ g 9)=some b9/\u.cell? (a_ g 10)=some b10/\u.cell? (a_ g 11)=some b11/\u.cell? (a_ g 12)=some b12/\u.cell? (a_ g 13)=some b13/\u.cell? (a_ g 14)=some b14:=by
 have q:=fun j=>bn0 u g j _ _ _ h;exact⟨q 0,q 1,q 2,q 3,q 4,q 5,q 6,q 7,q 8,q 9,q 10,q 11,q 12,q 13,q 14⟩
def Mc.ah5(m:Mc)(a:Int):ByteArray:=WM.vE 1 m.card m.addr [0,0,0,0,0,0] a
def Mc.aH2(m:Mc)(a:Int):Mc:=m.send [255,255,255,255,255,255] 2054 (m.ah5 a)
theorem aE1(h:Mx w0 P w B m)(hst:0<=m.addr/\m.addr<=4294967295)(a:Int)(ha:0<=a/\a<=4294967295):f_ Vh 135 #[p_ B,.int .u32 a] w fun ee w'=>ee=.returned (.tuple #[])/\Mx w0 P w' B (m.aH2 a):=by
 have hz:=Cq 1 m.card rfl m.addr [0,0,0,0,0,0] rfl a;have HAD:Hid (∀u,Mx w0 P u B m->f_ Vh 47 #[p_ B] u fun e w'=>e=.returned (.int .u32 m.addr)/\w'=u):=Fe (fun u hu=>lL hu);have HWA:Hid (∀u,f_ Vh 64 #[.agg (rE 1 m.k0.toNat m.k1.toNat m.k2.toNat m.k3.toNat m.k4.toNat m.k5.toNat m.addr 0 0 0 0 0 0 a)] u fun ee w'=>ee=.returned (.tuple #[.string (m.ah5 a),.int .i64 (WM.Bu 1)])/\gm u.heap.size u w'):=Fe (fun u=>WM.ao4 1 m.k0 m.k1 m.k2 m.k3 m.k4 m.k5 m.addr 0 0 0 0 0 0 a u (by decide) (by decide) hst.1 hst.2 ha.1 ha.2);have HSD:Hid (∀(w0:fV) (P:Nat->Prop) (u:fV),Mx w0 P u B m->f_ Vh 174 #[p_ B,.agg (rS 255 255 255 255 255 255),.int .u16 2054,.string (m.ah5 a)] u fun ee w'=>ee=.returned (.tuple #[])/\Mx w0 P w' B (m.aH2 a)):=Fe (fun w0 P u hu=>sP hu 255 255 255 255 255 255 2054 (m.ah5 a) (by decide) (by decide) (bo6 hz (by decide)));have HM:=Fe h;have HK:Hid (∀u,gm w.heap.size w u->c_ u B 1 (.int .u8 m.k0.toNat)/\c_ u B 2 (.int .u8 m.k1.toNat)/\c_ u B 3 (.int .u8 m.k2.toNat)/\c_ u B 4 (.int .u8 m.k3.toNat)/\c_ u B 5 (.int .u8 m.k4.toNat)/\c_ u B 6 (.int .u8 m.k5.toNat)):=Fe (fun u hb=>⟨(h.below hb).c1,(h.below hb).c2,(h.below hb).c3,(h.below hb).c4,(h.below hb).c5,(h.below hb).c6⟩);have hlt:=h.lt;obtain⟨AB,hAB⟩:=ex_ (m.ah5 a);obtain⟨ke,hke⟩:=ex_ (WM.Bu 1);rw[<-hAB]at HWA HSD;obtain⟨ad,had⟩:=ex_ m.addr;rw[<-had]at HWA HAD;rw[<-hke]at HWA;clear h hst ha hz hAB hke had;go_enter func135,ntmps135;go_wp2;go_cut [4] (fun s4 wc=>s4=(p_ w.heap.size)/\Hid (Mx w0 P wc B m/\wc.heap[w.heap.size]?=some (.cells (rE 1 m.k0.toNat m.k1.toNat m.k2.toNat m.k3.toNat m.k4.toNat m.k5.toNat ad 0 0 0 0 0 0 a) 87 (0,0))));case first=>
  go_region_held3 (fun u=>c_ u B 1 (.int .u8 m.k0.toNat)/\c_ u B 2 (.int .u8 m.k1.toNat)/\c_ u B 3 (.int .u8 m.k2.toNat)/\c_ u B 4 (.int .u8 m.k3.toNat)/\c_ u B 5 (.int .u8 m.k4.toNat)/\c_ u B 6 (.int .u8 m.k5.toNat)) (exact HK _ (by(repeat (first|exact bn9 _ _|(refine by9 ?_)|(refine bv5 ?_ (by first|(simp;done)|(simp;omega)) _)))))
   (first|(go_at_call 47;refine bt1 (HAD _ ?_) ?_;exact HM.below (by(repeat (first|exact bn9 _ _|(refine by9 ?_)|(refine bv5 ?_ (by first|(simp;done)|(simp;omega)) _))));rintro ee u2 ⟨rfl,rfl⟩))
  all_goals go_wp2
  all_goals go_meet
  all_goals exact⟨rfl,Fe ⟨HM.below (by(repeat (first|exact bn9 _ _|(refine by9 ?_)|(refine bv5 ?_ (by first|(simp;done)|(simp;omega)) _)))),bn3 w _⟩⟩
 rename fV=>x;obtain⟨rfl,HC⟩:=hcut;have HX:=Fe HC.1;have HR:=Fe HC.2;have HKS:Hid (∀u,gm x.heap.size x u->(c_ u 2 0 (.int .u8 255)/\c_ u 2 1 (.int .u8 255)/\c_ u 2 2 (.int .u8 255)/\c_ u 2 3 (.int .u8 255)/\c_ u 2 4 (.int .u8 255)/\c_ u 2 5 (.int .u8 255))/\(c_ u w.heap.size 0 (.int .u16 1)/\c_ u w.heap.size 1 (.int .u8 m.k0.toNat)/\c_ u w.heap.size 2 (.int .u8 m.k1.toNat)/\c_ u w.heap.size 3 (.int .u8 m.k2.toNat)/\c_ u w.heap.size 4 (.int .u8 m.k3.toNat)/\c_ u w.heap.size 5 (.int .u8 m.k4.toNat)/\c_ u w.heap.size 6 (.int .u8 m.k5.toNat)/\c_ u w.heap.size 7 (.int .u32 ad)/\c_ u w.heap.size 8 (.int .u8 0)/\c_ u w.heap.size 9 (.int .u8 0)/\c_ u w.heap.size 10 (.int .u8 0)/\c_ u w.heap.size 11 (.int .u8 0)/\c_ u w.heap.size 12 (.int .u8 0)/\c_ u w.heap.size 13 (.int .u8 0)/\c_ u w.heap.size 14 (.int .u32 a))):=Fe (fun u hb=>⟨(HX.below hb).YK,NN ((hb.block w.heap.size (bo2 HR)).trans HR)⟩);have HFOOT:Hid (¬iq B m w.heap.size/\w0.heap.size<=w.heap.size):=Fe ⟨fun hf=>by have:=HM.ik hf;omega,HM.size⟩;clear HK HAD hlt HC;go_wp2;go_region_held3 (fun u=>(c_ u 2 0 (.int .u8 255)/\c_ u 2 1 (.int .u8 255)/\c_ u 2 2 (.int .u8 255)/\c_ u 2 3 (.int .u8 255)/\c_ u 2 4 (.int .u8 255)/\c_ u 2 5 (.int .u8 255))/\(c_ u w.heap.size 0 (.int .u16 1)/\c_ u w.heap.size 1 (.int .u8 m.k0.toNat)/\c_ u w.heap.size 2 (.int .u8 m.k1.toNat)/\c_ u w.heap.size 3 (.int .u8 m.k2.toNat)/\c_ u w.heap.size 4 (.int .u8 m.k3.toNat)/\c_ u w.heap.size 5 (.int .u8 m.k4.toNat)/\c_ u w.heap.size 6 (.int .u8 m.k5.toNat)/\c_ u w.heap.size 7 (.int .u32 ad)/\c_ u w.heap.size 8 (.int .u8 0)/\c_ u w.heap.size 9 (.int .u8 0)/\c_ u w.heap.size 10 (.int .u8 0)/\c_ u w.heap.size 11 (.int .u8 0)/\c_ u w.heap.size 12 (.int .u8 0)/\c_ u w.heap.size 13 (.int .u8 0)/\c_ u w.heap.size 14 (.int .u32 a))) (first|exact HKS _ ((bn9 _ _).drew)|exact HKS _ HB1|exact⟨H3.YK,NN ((H3.kept w.heap.size (bo2 HR) HFOOT.1).trans HR)⟩)
  (first|(go_at_call 64;refine(HWA _).mono ?_;rintro ee u1 ⟨rfl,hb1⟩;have HB1:=Fe (((bn9 x.heap.size x).drew).trans hb1);clear hb1)|(go_at_call 175;refine(WQ _ _ _).mono ?_;rintro ee u2 ⟨rfl,rfl⟩)|(go_at_call 174;refine(HSD x (iq B m) _ (HX.base.below HB1)).mono ?_;rintro ee u3 ⟨rfl,h3⟩;have H3:=Fe h3;clear h3))
 go_wp2;go_end0;exact⟨rfl,HX.join H3⟩
theorem DW(h:Mx w0 P w B m)(hst:m.st<4)(a:Int)(ha:0<=a/\a<=4294967295):f_ Vh 135 #[p_ B,.int .u32 a] w fun ee w'=>ee=.returned (.tuple #[])/\Mx w0 P w' B (m.ask a):=by
 have e:m.addr=0:=by unfold Mc.addr;rw[bp0 hst]
 have q:=aE1 h (by rw[e];decide) a ha;rw[show m.aH2 a=m.ask a by unfold Mc.aH2 Mc.ask Mc.ah5 Mc.Ej;rw[e]]at q;exact q
def Nb.more(n:Nb)(now:Int):Nb:={n with asks:=wrap64 (n.asks+1),till:=wrap64 (now+2)}
def Mc.aK0(m:Mc)(a:Int)(n:Nb):Mc:=(m.keep a (n.more m.now)).aH2 a
theorem VI(h:Mx w0 P w B m){a:Int}(n:Nb)(Y Z:Mc->Prop)(hK:∀u,Mx w0 P u B m->f_ Vh 134 #[.map (some m.bm),.int .u32 a,(n.more m.now).v] u fun ee w'=>ee=.returned (.tuple #[])/\∃mz,(Y mz/\mz.bm=m.bm)/\Mx w0 P w' B mz/\PU u w' m.bm)
  (hA:∀mz u,Y mz->Mx w0 P u B mz->f_ Vh 135 #[p_ B,.int .u32 a] u fun ee w'=>ee=.returned (.tuple #[])/\∃my,Z my/\Mx w0 P w' B my):
  f_ Vh 85 #[p_ B,.int .u32 a,n.v] w fun ee w'=>ee=.returned (.tuple #[])/\∃my,Z my/\Mx w0 P w' B my:=by
 have HM:=Fe h;have c0:=h.c0;have c14:=h.c14;have hlt:=h.lt;have hB:B≠w.heap.size:=bo5 hlt;have HK:=Fe hK;have HA:=Fe hA;unfold Nb.more at HK;unfold Nb.v at HK ⊢;clear h hK hA;go_enter func85,ntmps85;go_wp2;obtain⟨X,hX⟩:=ex_ (w.alloc (.cells (rM (wrap64 (n.asks+1)) n.k0.toNat n.k1.toNat n.k2.toNat n.k3.toNat n.k4.toNat n.k5.toNat (wrap64 (m.now+2)) n.load) 157 (0,0)));have HX:Hid (Mx w0 P X B m/\X.heap[w.heap.size]?=some (.cells (rM (wrap64 (n.asks+1)) n.k0.toNat n.k1.toNat n.k2.toNat n.k3.toNat n.k4.toNat n.k5.toNat (wrap64 (m.now+2)) n.load) 157 (0,0))/\w.heap.size≠m.bm):=Fe (by
  rw[hX];exact⟨HM.alloc _,bn3 w _,fun e=>by have:=HM.ik (bo3 (bo1 e));omega⟩)
 have HC:Hid (∀u:fV,u.heap[w.heap.size]?=some (.cells (rM (wrap64 (n.asks+1)) n.k0.toNat n.k1.toNat n.k2.toNat n.k3.toNat n.k4.toNat n.k5.toNat (wrap64 (m.now+2)) n.load) 157 (0,0))->c_ u w.heap.size 0 (.int .i64 (wrap64 (n.asks+1)))/\c_ u w.heap.size 1 (.int .u8 n.k0.toNat)/\c_ u w.heap.size 2 (.int .u8 n.k1.toNat)/\c_ u w.heap.size 3 (.int .u8 n.k2.toNat)/\c_ u w.heap.size 4 (.int .u8 n.k3.toNat)/\c_ u w.heap.size 5 (.int .u8 n.k4.toNat)/\c_ u w.heap.size 6 (.int .u8 n.k5.toNat)/\c_ u w.heap.size 7 (.int .i64 (wrap64 (m.now+2)))/\c_ u w.heap.size 8 (.string n.load)):=Fe (fun u hu=>by
  have q:=fun j=>bn0 u _ j _ _ _ hu
  exact⟨q 0,q 1,q 2,q 3,q 4,q 5,q 6,q 7,q 8⟩)
 rw[<-hX];clear hX c0 c14 HM;go_region_held3 (fun u=>c_ u B 0 (.map (some m.bm))/\c_ u w.heap.size 0 (.int .i64 (wrap64 (n.asks+1)))/\c_ u w.heap.size 1 (.int .u8 n.k0.toNat)/\c_ u w.heap.size 2 (.int .u8 n.k1.toNat)/\c_ u w.heap.size 3 (.int .u8 n.k2.toNat)/\c_ u w.heap.size 4 (.int .u8 n.k3.toNat)/\c_ u w.heap.size 5 (.int .u8 n.k4.toNat)/\c_ u w.heap.size 6 (.int .u8 n.k5.toNat)/\c_ u w.heap.size 7 (.int .i64 (wrap64 (m.now+2)))/\c_ u w.heap.size 8 (.string n.load)) (first|exact⟨HX.1.c0,HC _ HX.2.1⟩|exact⟨(gB HBM)▸H1.c0,HC _ HR⟩)
  (first|(go_at_call 134;refine(HK _ HX.1.drew).mono ?_;rintro ee u ⟨rfl,mz,⟨hy,hbm⟩,h1,t1⟩;have HY:=Fe hy;have HBM:=Fe hbm;clear hy hbm;have H1:=Fe h1;have HR:=Fe (t1.cells HX.2.1 HX.2.2);clear h1 t1))
 clear HX HC HR;go_wp2_with fail;refine on_ (HA _ _ HY H1) ?_;rintro u2 ⟨my,hz,h2⟩;have H2:=Fe (show ∃my,Z my/\Mx w0 P u2 B my from⟨my,hz,h2⟩);clear hz h2;go_wp2;go_end0;exact⟨rfl,H2⟩
theorem ay5(h:Mx w0 P w B m)(ho:m.Ok){a:Int}(hr:Room m.cd a)(n:Nb):f_ Vh 85 #[p_ B,.int .u32 a,n.v] w fun ee w'=>ee=.returned (.tuple #[])/\Mx w0 P w' B (m.aK0 a n):=
 (VI h n (· =m.keep a (n.more m.now)) (· =m.aK0 a n) (fun u hu=>(Z6 hu hr _).mono fun _ _ ⟨e,q,t⟩=>⟨e,_,⟨rfl,rfl⟩,q,t⟩) (fun _ u e hu=>by subst e;exact(aE1 hu ho.addr a hr.1).mono fun _ _ ⟨e,q⟩=>⟨e,_,rfl,q⟩)).mono fun _ _ ⟨e,_,r,q⟩=>⟨e,r▸q⟩
theorem YO(h:Mx w0 P w B m)(n:Nat):f_ Vh 47 #[p_ B] (w.drewN n) fun e w'=>e=.returned (.int .u32 m.addr)/\w'=w.drewN n:=lL (h.like (w':=w.drewN n) ⟨rfl,rfl,rfl,rfl⟩)
def Mc.hop(m:Mc)(t:Int):Int:=if(bits BinOp.and .u32 t m.mask==bits BinOp.and .u32 m.addr m.mask||m.yz==0)=true then t else m.yz
theorem aL2{t:Int}(h:bits BinOp.and .u32 t m.mask=bits BinOp.and .u32 m.addr m.mask):t=m.hop t:=by unfold Mc.hop;rw[bp0 (by simp[h])]
theorem aM8{t:Int}(h:(bits BinOp.and .u32 t m.mask==bits BinOp.and .u32 m.addr m.mask)=true∨(m.yz==0)=true):t=m.hop t:=by unfold Mc.hop;rw[bp0 (by rcases h with h|h<;>simp[h])]
theorem aK9{t:Int}(h:(bits BinOp.and .u32 t m.mask==bits BinOp.and .u32 m.addr m.mask)=false/\(m.yz==0)=false):m.yz=m.hop t:=by unfold Mc.hop;rw[bo4 (by simp[h.1,h.2])]
theorem ap8(h:Mx w0 P w B m)(t:Int):f_ Vh 182 #[p_ B,.int .u32 t] w fun ee w'=>ee=.returned (.int .u32 (m.hop t))/\gm w.heap.size w w':=by
 have c32:=h.c32;have qd:=h.qd;have c34:=h.c34;have Qu:=h.Qu;have Qw:=h.Qw;have c37:=h.c37;have aX6:=h.aX6;have hlt:=h.lt;have hB:B≠w.heap.size:=bo5 hlt;have HA:=Fe (YO (h.alloc (.cells (rK m.mask m.yz m.FJ m.ends m.old m.iZ m.over) 109)));clear h;go_enter func182,ntmps182;go_wp2;go_quiet (first|(go_at_call 47;exact bp9 (HA _)));clear c32 qd c34 Qu Qw c37 aX6 HA;go_wp2
 ·go_ret
  rename_i e
  refine⟨?_,below_drewN b1_ _⟩;show Ending.returned (Value.int .u32 t)=_;rw[<-aL2 e]
 ·go_ret
  rename_i e
  refine⟨?_,below_drewN b1_ _⟩;show Ending.returned (Value.int .u32 t)=_;rw[<-aM8 e]
 go_ret;rename_i e
 refine⟨?_,below_drewN b1_ _⟩;show Ending.returned (Value.int .u32 m.yz)=_;rw[<-aK9 e]
theorem af8(n:Nb)(w:fV):f_ Vh 170 #[n.v] w fun ee w'=>ee=.returned (.bool (n.asks==0))/\gm w.heap.size w w':=by
 unfold Nb.v;go_enter func170,ntmps170;go_wp2;go_ret;exact⟨rfl,(bn9 _ _).alloc (bn7 _) _⟩
def Mc.al7(m:Mc)(ta f t:Int)(load:ByteArray):Mc:=m.Ww.aK0 (m.hop ta) {bC with load:=m.lD ta f t load}
def Mc.Y6(m:Mc)(ta f t:Int)(load:ByteArray)(x:Nb):Mc:=m.Ww.send [x.k0,x.k1,x.k2,x.k3,x.k4,x.k5] 2048 (m.lD ta f t load)
def Mc.Ty(m:Mc)(ta f t:Int)(load:ByteArray)(x:Nb):Mc:=m.Ww.keep (m.hop ta) {x with load:=m.lD ta f t load}
theorem ar9(h:Mx w0 P w B m)(ho:m.Ok)(ta f t:Int)(load:ByteArray)(hta:0<=ta/\ta<=4294967295)(hF:0<=f/\f<=65535)(hT:0<=t/\t<=65535)(hl:load.size<=262144)(hr:Room m.cd (m.hop ta))(hn:Maps.has m.cd (.int .u32 (m.hop ta))=false):
  f_ Vh 143 #[p_ B,.int .u32 ta,.agg (rF f t load)] w fun ee w'=>ee=.returned (.tuple #[])/\Mx w0 P w' B (m.al7 ta f t load):=by
 have HM:=Fe h;have HP:Hid (∀u,Mx w0 P u B m->f_ Vh 181 #[p_ B,.int .u32 ta,.agg (rF f t load)] u fun ee w'=>ee=.returned (.string (m.lD ta f t load))/\Mx w0 P w' B m.Ww):=Fe (fun u hu=>GU hu ho ta f t load hta hF hT hl);have HH:Hid (∀u,Mx w0 P u B m.Ww->f_ Vh 182 #[p_ B,.int .u32 ta] u fun ee w'=>ee=.returned (.int .u32 (m.hop ta))/\gm u.heap.size u w'):=Fe (fun u hu=>ap8 hu ta);obtain⟨x,hx⟩:=hr.2.1;have HL:Hid (∀u,Mx w0 P u B m.Ww->(Instr.lookup 102 (.map (some m.bm)) (.int .u32 (m.hop ta)) true).run Vh u=.ok (.tuple #[.agg (rM x.asks x.k0.toNat x.k1.toNat x.k2.toNat x.k3.toNat x.k4.toNat x.k5.toNat x.till x.load),.bool false]) u):=Fe (fun u hu=>by have r:=YE (D:=m.cd) hu.map _ hr.1 x hx;rw[hn]at r;exact r);have HS:Hid (∀u,Mx w0 P u B m.Ww->f_ Vh 85 #[p_ B,.int .u32 (m.hop ta),.agg (rM 0 0 0 0 0 0 0 0 (m.lD ta f t load))] u fun ee w'=>ee=.returned (.tuple #[])/\Mx w0 P w' B (m.al7 ta f t load)):=Fe (fun u hu=>ay5 hu ho.Ww hr {bC with load:=m.lD ta f t load});obtain⟨pk,hpk⟩:=ex_ (m.lD ta f t load);obtain⟨hp,hhp⟩:=ex_ (m.hop ta);rw[<-hpk]at HP HS;rw[<-hhp]at HH HL HS;clear h ho hr hn hx hpk hhp hta hF hT hl;go_enter func143,ntmps143;go_wp2_with fail;refine on_ (HP _ (HM.alloc _)) fun u h1=>?_;have H1:=Fe h1;clear h1 HP HM;go_wp2_with fail;refine on_ (HH _ H1) fun u2 hb2=>?_;have H2:=Fe (H1.below hb2);have c0:u2.cell? (a_ B 0)=some (.map (some m.bm)):=H2.c0;have hlt:=H2.lt;have hB:B≠u2.heap.size:=bo5 hlt;have hL:=HL _ H2;clear hb2 H1 HH HL;go_wp2_with fail;refine on_ (HS _ ((H2.alloc _))) fun u4 h4=>?_;have H4:=Fe h4;clear h4;go_wp2;go_end0;exact⟨rfl,H4⟩
theorem ai9(h:Mx w0 P w B m)(ho:m.Ok)(ta f t:Int)(load:ByteArray)(hta:0<=ta/\ta<=4294967295)(hF:0<=f/\f<=65535)(hT:0<=t/\t<=65535)(hl:load.size<=262144)(x:Nb)(hr:0<=m.hop ta/\m.hop ta<=4294967295)(hx:m.cd.atKey (.int .u32 (m.hop ta)) bC.d=x.d)(hn:Maps.has m.cd (.int .u32 (m.hop ta))=true)(hk:x.asks=0):
  f_ Vh 143 #[p_ B,.int .u32 ta,.agg (rF f t load)] w fun ee w'=>ee=.returned (.tuple #[])/\Mx w0 P w' B (m.Y6 ta f t load x):=by
 have HM:=Fe h;have HP:Hid (∀u,Mx w0 P u B m->f_ Vh 181 #[p_ B,.int .u32 ta,.agg (rF f t load)] u fun ee w'=>ee=.returned (.string (m.lD ta f t load))/\Mx w0 P w' B m.Ww):=Fe (fun u hu=>GU hu ho ta f t load hta hF hT hl);have HH:Hid (∀u,Mx w0 P u B m.Ww->f_ Vh 182 #[p_ B,.int .u32 ta] u fun ee w'=>ee=.returned (.int .u32 (m.hop ta))/\gm u.heap.size u w'):=Fe (fun u hu=>ap8 hu ta);have HL:Hid (∀u,Mx w0 P u B m.Ww->(Instr.lookup 102 (.map (some m.bm)) (.int .u32 (m.hop ta)) true).run Vh u=.ok (.tuple #[.agg (rM x.asks x.k0.toNat x.k1.toNat x.k2.toNat x.k3.toNat x.k4.toNat x.k5.toNat x.till x.load),.bool true]) u):=Fe (fun u hu=>by have r:=YE (D:=m.cd) hu.map _ hr x hx;rw[hn]at r;exact r);have HS:Hid (∀u,Mx w0 P u B m.Ww->f_ Vh 174 #[p_ B,.agg (rS x.k0.toNat x.k1.toNat x.k2.toNat x.k3.toNat x.k4.toNat x.k5.toNat),.int .u16 2048,.string (m.lD ta f t load)] u fun ee w'=>ee=.returned (.tuple #[])/\Mx w0 P w' B (m.Y6 ta f t load x)):=Fe (fun u hu=>sP hu x.k0 x.k1 x.k2 x.k3 x.k4 x.k5 2048 _ (by decide) (by decide) (bo6 (vC _ _ _ _ _) (by decide)));have HY:=Fe (af8 x);rw[show(x.asks==0)=true from by rw[hk];rfl]at HY;unfold Nb.v at HY;obtain⟨pk,hpk⟩:=ex_ (m.lD ta f t load);obtain⟨hp,hhp⟩:=ex_ (m.hop ta);rw[<-hpk]at HP HS;rw[<-hhp]at HH HL;clear h ho hr hn hx hpk hhp hta hF hT hl hk;go_enter func143,ntmps143;go_wp2_with fail;refine on_ (HP _ (HM.alloc _)) fun u h1=>?_;have H1:=Fe h1;clear h1 HP HM;go_wp2_with fail;refine on_ (HH _ H1) fun u2 hb2=>?_;have H2:=Fe (H1.below hb2);have c0:u2.cell? (a_ B 0)=some (.map (some m.bm)):=H2.c0;have hlt:=H2.lt;have hB:B≠u2.heap.size:=bo5 hlt;have hL:=HL _ H2;clear hb2 H1 HH HL;go_wp2_with fail;refine on_ (HY _) fun u3 hb3=>?_;have hc:=WM.iF hb3;have H3:=Fe ((H2.alloc _).below hb3);clear hb3 HY c0 hL;go_wp2_with fail;refine on_ (HS _ H3) fun u4 h4=>?_;have H4:=Fe h4;clear h4;go_wp2;go_end0;exact⟨rfl,H4⟩
def Mc.knows(m:Mc)(a:Int)(f0 f1 f2 f3 f4 f5:UInt8):Mc:=m.keep a ⟨0,f0,f1,f2,f3,f4,f5,wrap64 (m.now+60),⟨#[]⟩⟩
def Mc.learns(m:Mc)(a:Int)(f0 f1 f2 f3 f4 f5:UInt8)(x:Nb):Mc:=(m.knows a f0 f1 f2 f3 f4 f5).send [f0,f1,f2,f3,f4,f5] 2048 x.load
theorem ad7{u:fV}{g:Nat}{t:TypeId}{a0 a1 a2 a3 a4 a5 a6 a7 a8 a9 a10 a11 a12 a13 a14:Value}(h:u.heap[g]?=some (.cells #[a0,a1,a2,a3,a4,a5,a6,a7,a8,a9,a10,a11,a12,a13,a14] t (0,0))):
  u.cell? (a_ g 1)=some a1/\u.cell? (a_ g 2)=some a2/\u.cell? (a_ g 3)=some a3/\u.cell? (a_ g 4)=some a4/\u.cell? (a_ g 5)=some a5/\u.cell? (a_ g 6)=some a6/\u.cell? (a_ g 7)=some a7:=by
 have q:=fun j=>bn0 u g j _ _ _ h;exact⟨q 1,q 2,q 3,q 4,q 5,q 6,q 7⟩
theorem az9(x:Int):IntKind.i64.wrap x=wrap64 x:=by unfold wrap64;exact bB0 x
theorem ah2(h:Mx w0 P w B m)(op:Int)(f0 f1 f2 f3 f4 f5:UInt8)(fip t0 t1 t2 t3 t4 t5 tip:Int)(h0:fip≠0)(h1:fip≠m.addr)(hr:Room m.cd fip)(x:Nb)(hx:m.cd.atKey (.int .u32 fip) bC.d=x.d)(hn:Maps.has m.cd (.int .u32 fip)=true)(hw:x.load.toList.isEmpty=false)(hz:x.load.size<=262144):
  f_ Vh 185 #[p_ B,.agg (rE op f0.toNat f1.toNat f2.toNat f3.toNat f4.toNat f5.toNat fip t0 t1 t2 t3 t4 t5 tip)] w fun ee w'=>ee=.returned (.tuple #[])/\Mx w0 P w' B (m.learns fip f0 f1 f2 f3 f4 f5 x):=by
 have HA:=Fe (YO (h.alloc (.cells (rE op f0.toNat f1.toNat f2.toNat f3.toNat f4.toNat f5.toNat fip t0 t1 t2 t3 t4 t5 tip) 87)));have HM:=Fe h;have hf3:(fip==0)=false:=by simpa using h0
 have hf4:(fip==m.addr)=false:=by simpa using h1
 have HL:Hid (∀u,Mx w0 P u B m->(Instr.lookup 102 (.map (some m.bm)) (.int .u32 fip) true).run Vh u=.ok (.tuple #[.agg (rM x.asks x.k0.toNat x.k1.toNat x.k2.toNat x.k3.toNat x.k4.toNat x.k5.toNat x.till x.load),.bool true]) u):=Fe (fun u hu=>by have r:=YE (D:=m.cd) hu.map _ hr.1 x hx;rw[hn]at r;exact r);have HK:Hid (∀u,Mx w0 P u B m->f_ Vh 134 #[.map (some m.bm),.int .u32 fip,.agg (rM 0 f0.toNat f1.toNat f2.toNat f3.toNat f4.toNat f5.toNat (IntKind.i64.wrap (m.now+60)) ⟨#[]⟩)] u fun ee w'=>ee=.returned (.tuple #[])/\Mx w0 P w' B (m.knows fip f0 f1 f2 f3 f4 f5)/\PU u w' m.bm):=Fe (fun u hu=>by rw[az9];exact Z6 hu hr ⟨0,f0,f1,f2,f3,f4,f5,wrap64 (m.now+60),⟨#[]⟩⟩);have HS:Hid (∀u,Mx w0 P u B (m.knows fip f0 f1 f2 f3 f4 f5)->f_ Vh 174 #[p_ B,.agg (rS f0.toNat f1.toNat f2.toNat f3.toNat f4.toNat f5.toNat),.int .u16 2048,.string x.load] u fun ee w'=>ee=.returned (.tuple #[])/\Mx w0 P w' B (m.learns fip f0 f1 f2 f3 f4 f5 x)):=Fe (fun u hu=>sP hu f0 f1 f2 f3 f4 f5 2048 x.load (by decide) (by decide) hz);have HBM:Hid (m.bm<w.heap.size):=Fe (h.ik (bo3 (bo1 rfl)));clear h hr hx hn hz;go_enter func185,ntmps185;go_wp2;go_quiet (first|(go_at_call 47;exact bp9 (HA _)));go_wp2;obtain⟨v,hv⟩:=ex_ ((w.alloc (.cells (rE op f0.toNat f1.toNat f2.toNat f3.toNat f4.toNat f5.toNat fip t0 t1 t2 t3 t4 t5 tip) 87)).drewN nq);have HV:Hid (Mx w0 P v B m):=Fe (by rw[hv];exact(HM.alloc _).like ⟨rfl,rfl,rfl,rfl⟩);have hrow:v.heap[w.heap.size]?=some (.cells (rE op f0.toNat f1.toNat f2.toNat f3.toNat f4.toNat f5.toNat fip t0 t1 t2 t3 t4 t5 tip) 87 (0,0)):=by rw[hv];exact bn3 w _
 have HRW:=Fe hrow;have c7:v.cell? (a_ w.heap.size 7)=some (.int .u32 fip):=bn0 _ _ 7 _ _ _ hrow;have c0v:v.cell? (a_ B 0)=some (.map (some m.bm)):=HV.c0;have hnv:B≠v.heap.size:=bo5 HV.lt;have hbx:w.heap.size≠v.heap.size:=bo5 (gG hrow);have hbl:w.heap.size<v.heap.size:=gG hrow;have hBl:B<v.heap.size:=HV.lt;rw[<-hv];clear hv HA HM hrow;have hL1:=HL v HV;have hL2:=HL v.drew HV.drew;have hL3:=HL (v.alloc (.cells zM_ 157)) (HV.alloc _);have hL4:=HL (v.alloc (.cells zM_ 157)).drew (HV.alloc _).drew;have c7a:(v.alloc (.cells zM_ 157)).cell? (a_ w.heap.size 7)=some (.int .u32 fip):=(bo7 (bn8 v _ _ hbl)).trans c7;have c0a:(v.alloc (.cells zM_ 157)).cell? (a_ B 0)=some (.map (some m.bm)):=(bo7 (bn8 v _ _ HV.lt)).trans c0v;go_cut [4,5] (fun s4 s5 wc=>s4=(p_ v.heap.size)/\s5=.bool true/\Hid (Mx w0 P wc B m/\wc.heap[v.heap.size]?=some (.cells (rM x.asks x.k0.toNat x.k1.toNat x.k2.toNat x.k3.toNat x.k4.toNat x.k5.toNat x.till x.load) 157 (0,0))/\wc.heap[w.heap.size]?=some (.cells (rE op f0.toNat f1.toNat f2.toNat f3.toNat f4.toNat f5.toNat fip t0 t1 t2 t3 t4 t5 tip) 87 (0,0))));case first=>
  go_region
  all_goals go_wp2
  all_goals go_meet
  all_goals exact⟨rfl,rfl,Fe ⟨(HV.alloc _).like ⟨rfl,rfl,rfl,rfl⟩,bn3 v _,(bn8 v _ _ hbl).trans HRW⟩⟩
 rename fV=>y;obtain⟨rfl,rfl,HC⟩:=hcut;have HY:=Fe HC.1;have HYX:=Fe HC.2.1;have HYA:=Fe HC.2.2;have HNB:Hid (v.heap.size≠m.bm/\w.heap.size≠m.bm):=Fe ⟨fun e=>by have:=HV.ik (bo3 (bo1 e));omega,fun e=>by have:=gB HBM;omega⟩;clear HC HL hL1 hL2 hL3 hL4 c7 c7a c0a c0v HV HRW;go_wp2;go_region_held3 (fun u=>c_ u B 0 (.map (some m.bm))/\c_ u B 14 (.int .i64 m.now)/\c_ u w.heap.size 1 (.int .u8 f0.toNat)/\c_ u w.heap.size 2 (.int .u8 f1.toNat)/\c_ u w.heap.size 3 (.int .u8 f2.toNat)/\c_ u w.heap.size 4 (.int .u8 f3.toNat)/\c_ u w.heap.size 5 (.int .u8 f4.toNat)/\c_ u w.heap.size 6 (.int .u8 f5.toNat)/\c_ u w.heap.size 7 (.int .u32 fip)) (first|exact⟨HY.c0,HY.c14,ad7 HYA⟩|exact⟨HY.drew.c0,HY.drew.c14,ad7 HYA⟩|exact⟨H1.c0,H1.c14,ad7 HR⟩)
  (first|(go_at_call 134;refine(HK _ HY.drew).mono ?_;rintro ee u ⟨rfl,h1,t1⟩;have H1:=Fe h1;have HR:=Fe (t1.cells HYA HNB.2);have HRX:=Fe (t1.cells HYX HNB.1);clear h1 t1))
 have x8:u.cell? (a_ v.heap.size 8)=some (.string x.load):=bn0 _ _ 8 _ _ _ HRX;obtain⟨y1,y2,y3,y4,y5,y6,y7⟩:=ad7 HR;clear HY HYX HYA HK HNB;go_wp2_with fail;refine on_ (HS _ H1) fun u2 h2=>?_;have H2:=Fe h2;clear h2;go_wp2;go_end0;exact⟨rfl,H2⟩
end Js
namespace Js
open Bs
variable{w0:fV} {P:Nat→Prop} {w w':fV} {B Q:Nat} {m m':Mc}
theorem aj1(h:Mx w0 P w B m){op:Int}(ho:op≠1)(f0 f1 f2 f3 f4 f5 fip t0 t1 t2 t3 t4 t5 tip:Int):f_ Vh 186 #[p_ B,.agg (rE op f0 f1 f2 f3 f4 f5 fip t0 t1 t2 t3 t4 t5 tip)] w fun ee w'=>ee=.returned (.bool false)/\gm w.heap.size w w':=by
 have hf1:(op==1)=false:=by simpa using ho
 clear h;go_enter func186,ntmps186;go_wp2;go_quiet (fail);go_wp2;go_ret;exact⟨rfl,below_drewN b1_ _⟩
theorem ZT(h:Mx w0 P w B m)(hn3:m.st≠3)(load:ByteArray)(op:Int)(f0 f1 f2 f3 f4 f5:UInt8)(fip t0 t1 t2 t3 t4 t5 tip:Int)(hop:op≠1)(h0:fip≠0)(h1:fip≠m.addr)(hr:Room m.cd fip)(x:Nb)(hx:m.cd.atKey (.int .u32 fip) bC.d=x.d)(hn:Maps.has m.cd (.int .u32 fip)=true)(hw:x.load.toList.isEmpty=false)(hz:x.load.size<=262144)
  (hR:∀u,f_ Vh 63 #[.string load] u fun e w'=>e=.returned (.tuple #[.agg (rE op f0.toNat f1.toNat f2.toNat f3.toNat f4.toNat f5.toNat fip t0 t1 t2 t3 t4 t5 tip),.int .i64 0])/\gm u.heap.size u w'):
  f_ Vh 145 #[p_ B,.string load] w fun ee w'=>ee=.returned (.tuple #[])/\Mx w0 P w' B (m.learns fip f0 f1 f2 f3 f4 f5 x):=by
 have HR:=Fe (hR w);have HM:=Fe h;clear hR h;go_enter func145,ntmps145;go_wp2_with fail;refine on_ HR fun u1 hb1=>?_;have HNF: ¬iq B m u1.heap.size:=fun hf=>bu3 _ ((HM.below hb1).ik hf);have HM1:=Fe ((HM.below hb1).alloc (.cells (rE op f0.toNat f1.toNat f2.toNat f3.toNat f4.toNat f5.toNat fip t0 t1 t2 t3 t4 t5 tip) 87));clear hb1 HR HM;have HR1:Hid ((u1.alloc (.cells (rE op f0.toNat f1.toNat f2.toNat f3.toNat f4.toNat f5.toNat fip t0 t1 t2 t3 t4 t5 tip) 87)).heap[u1.heap.size]?=some (.cells (rE op f0.toNat f1.toNat f2.toNat f3.toNat f4.toNat f5.toNat fip t0 t1 t2 t3 t4 t5 tip) 87 (0,0))):=Fe (bn3 u1 _);have HC1:=Fe (Ar HM1 hn3 op f0.toNat f1.toNat f2.toNat f3.toNat f4.toNat f5.toNat fip t0 t1 t2 t3 t4 t5 tip);go_wp2_with fail;refine on_ HC1 fun u2 hb2=>?_;have HM2:=Fe (HM1.below hb2);have HR2:=Fe ((hb2.block u1.heap.size (gG HR1)).trans HR1);clear hb2 HC1 HM1 HR1;obtain⟨x0,x1,x2,x3,x4,x5,x6,x7,x8,x9,x10,x11,x12,x13,x14⟩:=oZ HR2;have HC2:=Fe (ah2 HM2.base op f0 f1 f2 f3 f4 f5 fip t0 t1 t2 t3 t4 t5 tip h0 h1 hr x hx hn hw hz);go_wp2_with fail;refine on_ HC2 fun u3 hk3=>?_;have HM3:=Fe (HM2.join hk3);have HR3:=Fe ((hk3.kept u1.heap.size (gG HR2) HNF).trans HR2);clear hk3 HC2 HM2 HR2 x0 x1 x2 x3 x4 x5 x6 x7 x8 x9 x10 x11 x12 x13 x14;obtain⟨x0,x1,x2,x3,x4,x5,x6,x7,x8,x9,x10,x11,x12,x13,x14⟩:=oZ HR3;have HC3:=Fe (aj1 HM3 hop f0.toNat f1.toNat f2.toNat f3.toNat f4.toNat f5.toNat fip t0 t1 t2 t3 t4 t5 tip);go_wp2_with fail;refine on_ HC3 fun u4 hb4=>?_;have HM4:=Fe (HM3.below hb4);clear hb4 HC3 HM3 HR3;go_wp2;go_returns
 exact⟨rfl,HM4⟩
end Js
namespace Js
open Bs
variable{w0:fV} {P:Nat→Prop} {w w':fV} {B:Nat} {m m':Mc}
def Cd(Q:Nb->Prop)(D:DataW Unit):Prop:=∀a:Int,Maps.has D (.int .u32 a)=true->∃n:Nb,D.atKey (.int .u32 a) bC.d=n.d/\Q n
theorem Cd.nil(Q:Nb->Prop):Cd Q (.map []):=by
 intro a h
 cases h
theorem bO{bm n:Nat}{D:DataW Unit}(h:w.ownsMap Vh 36 Qz bm n D)(a:Int)(ha:0<=a/\a<=4294967295)(x:Nb)(hx:D.atKey (.int .u32 a) bC.d=x.d):
  (Instr.lookup 102 (.map (some bm)) (.int .u32 a) false).run Vh w=.ok x.v w:=by
 obtain⟨v,ps,h1,h2⟩:=h.lookup (bu6 bt8) bu1 (VM w) (zd:=bC.d) (zp:=[]) rfl (aG2 a ha);rw[hx]at h2;rw[h1,aF5 h2]
theorem Vu{x:Int}(h:(Lit.int .u32 x).wf=true):0<=x/\x<=4294967295:=by
 simp only[Lit.wf,bu7,by6]at h;exact⟨h.1,h.2⟩
section
variable{ops:Array Oper} {rest:List Oper} {o:Oper} {a:Act} {R:Exit→Act→fV→Prop}
theorem aN{Q:Nb->Prop}(hg:o.guard=none)(it:Operand)(hop:o.op=Op.next it false)(b r n:Nat)(D:DataW Unit)(left:Lit->Bool)(cnt:Nat)
  (hC:Cd Q D) (hit:a.eval it=(p_ r)) (h:w.ranges Vh 36 Qz b r n D left cnt)
  (hDone:cnt=0->(∀kl,left kl=false)->wpList Vh ops R rest (a.put o.dst (.tuple #[.bool false])) w)
  (hMore:∀(x:Int) (c:Nb) (w':fV) (cnt':Nat),0<=x/\x<=4294967295->left (.int .u32 x)=true->Maps.has D (.int .u32 x)=true->Q c->D.atKey (.int .u32 x) bC.d=c.d->
    w'.ranges Vh 36 Qz b r n D (fun z=>left z && !z.sameKey (.int .u32 x)) cnt'->cnt'<cnt->w.grownBy w' (some r)->w'.heap.size=w.heap.size->
    (Instr.entry (p_ r)).run Vh w'=.ok (.tuple #[.int .u32 x,.agg (rM c.asks c.k0.toNat c.k1.toNat c.k2.toNat c.k3.toNat c.k4.toNat c.k5.toNat c.till c.load)]) w'->
    wpList Vh ops R rest (a.put o.dst (.tuple #[.bool true,.int .u32 x,.agg (rM c.asks c.k0.toNat c.k1.toNat c.k2.toNat c.k3.toNat c.k4.toNat c.k5.toNat c.till c.load)])) w'):
  wpList Vh ops R (o::rest) a w:=by
 refine wpList_plain hg fun K' hK'=> ?_;unfold Oper.wp
 rcases h.next (bu6 bt8) o.type with⟨h0,hl,hrun⟩|⟨key,v,kl,y,w',cnt',hkey,hlk,hv,hat,hrun,hrg,hlt,hgr,hsz,hen⟩
 ·simp[execOp,hop,hit,hrun,Result.andThen]
  exact hK' _ _ (hDone h0 hl)
 obtain⟨x,rfl,rfl,hwf⟩:=Maps.keyOf_int_inv bt8 hkey;have hh:=Maps.has_true_of_atKey hat;obtain⟨c,hc,hq⟩:=hC x hh;obtain⟨y1,y2⟩:=y;have e:y1=c.d:=(hat bC.d).symm.trans hc;subst e;obtain rfl:=aF5 hv;simp[execOp,hop,hit,hrun,Result.andThen];exact hK' _ _ (hMore x c w' cnt' (Vu hwf) hlk hh hq hc hrg hlt hgr hsz hen)
end
theorem jh{u u':fV}{n r:Nat}(h:gm n w u)(g:u.grownBy u' (some r))(hn:n<=u.heap.size)(hr:n<=r):gm n w u':=
 h.trans ⟨g.os,g.tape,g.output,g.size,fun k hk=>g.block k (by omega) (by simp;omega)⟩
theorem aG{u u':fV}{n:Nat}(h:gm n w u)(g:u.grownBy u' none)(hn:n<=u.heap.size):gm n w u':=
 h.trans ⟨g.os,g.tape,g.output,g.size,fun k hk=>g.block k (by omega) (by simp)⟩
end Js
namespace Js
open Bs
variable{w0:fV} {P:Nat→Prop} {w w':fV} {B:Nat} {m m':Mc}
theorem PU.refl(w:fV)(b:Nat):PU w w b:=⟨rfl,rfl,rfl,bn7 _,fun _ _ _=>rfl⟩
theorem PU.grown{u u':fV}{b:Nat}{r:Option Nat}(h:PU w u b)(g:u.grownBy u' r)(hr:∀k,r=some k->w.heap.size<=k∨k=b):PU w u' b:=
 ⟨g.os.trans h.os,g.tape.trans h.tape,g.output.trans h.output,bo6 h.size g.size,fun k hk hn=>(g.block k (bo9 hk h.size) (by
  intro e
  rcases hr k e.symm with e1|e1
  ·omega
  exact hn e1)).trans (h.block k hk hn)⟩
theorem aK{u u':fV}(h:gm u.heap.size u u'):u.grownBy u' none:=⟨h.os,h.tape,h.output,h.size,fun k hk _=>h.block k hk⟩
theorem nine{u:fV}{g:Nat}{t:TypeId}{a0 a1 a2 a3 a4 a5 a6 a7 a8:Value}(h:u.heap[g]?=some (.cells #[a0,a1,a2,a3,a4,a5,a6,a7,a8] t (0,0))):
  u.cell? (a_ g 0)=some a0/\u.cell? (a_ g 1)=some a1/\u.cell? (a_ g 2)=some a2/\u.cell? (a_ g 3)=some a3/\u.cell? (a_ g 4)=some a4/\u.cell? (a_ g 5)=some a5/\u.cell? (a_ g 6)=some a6/\u.cell? (a_ g 7)=some a7/\u.cell? (a_ g 8)=some a8:=
 ⟨bn0 _ _ _ _ _ _ h,bn0 _ _ _ _ _ _ h,bn0 _ _ _ _ _ _ h,bn0 _ _ _ _ _ _ h,bn0 _ _ _ _ _ _ h,bn0 _ _ _ _ _ _ h,bn0 _ _ _ _ _ _ h,bn0 _ _ _ _ _ _ h,bn0 _ _ _ _ _ _ h⟩
theorem bl8:(prog.info? 36).map (fun i=>(i.zero,i.size,i.bytes))=some (some (.int .u32 0),1,4):=by kernel_rfl
theorem bG4{P:Program}{k:TypeId}{R:Value->Option (DataW Unit×List MemPlace)}{b r n:Nat}{D:DataW Unit}{left:Lit->Bool}{cnt:Nat}{base:Nat}{e:TypeId}{z:Nat}{v:Value}{l:Nat}{xs:List Value}(h:w.ranges P k R b r n D left cnt)(ho:w.ownsRow base e z v l xs){g:Nat}(hg:v.ownBlock=some g):g≠r/\g≠b:=by
 obtain⟨es,clock,since,seen,c0,hb,_,_,_,hit,_⟩:=h
 rcases ho.2 with⟨h1,_⟩|⟨g',cap,cur,e1,e2,e3,e4⟩
 ·rw[h1]at hg;cases hg
 rw[e1]at hg;have:g'=g:=bp4 hg;subst this;constructor
 ·rintro rfl
  rw[hit]at e3;cases e3
 rintro rfl;rw[hb]at e3;cases e3
def Mc.bQ8(m:Mc)(D:DataW Unit):Mc:={m with cd:=D}
theorem Mc.Ok.hop{m:Mc}(h:m.Ok){ta:Int}(hta:0<=ta/\ta<=4294967295):0<=m.hop ta/\m.hop ta<=4294967295:=by
 unfold Mc.hop
 split
 ·exact hta
 exact h.yz
end Js
end Go.Proofs.YtdgacidndknceaaGreatDoor
