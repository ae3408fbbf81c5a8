import Derived.Test.YtdgacidndknceaaGreatDoorMg01
import Derived.Test.YtdgacidndknceaaGreatDoorMg03
import Derived.BigCall
import Derived.BigGuard
import Derived.CellFam
import Derived.Deep.Draws
import Derived.Maps.AppendAt
import Derived.Maps.RangeWalk
import Derived.Sort.LotA
import Derived.Sort.Row
set_option linter.all false
set_option maxHeartbeats 4000000
set_option maxRecDepth 100000
open Go.ChangeShapes Go.WideShapes Go.ChangeAt Go.RowKit
open Go renaming World → fV, Calls → f_
open Go.RowKit renaming Below → gm
open Go.Proofs.Tryz renaming prog → Vh
open Go.Proofs.Tryz
namespace Go.Proofs.YtdgacidndknceaaGreatDoor
namespace Js
open Bs
variable{w0:fV} {P:Nat→Prop} {w w':fV} {B:Nat} {m m':Mc}
structure Nb where
 asks:Int
 k0:UInt8
 k1:UInt8
 k2:UInt8
 k3:UInt8
 k4:UInt8
 k5:UInt8
 till:Int
 load:ByteArray
def Nb.v(n:Nb):Value:=.agg (rF n.asks n.k0.toNat n.k1.toNat n.k2.toNat n.k3.toNat n.k4.toNat n.k5.toNat n.till n.load)
def Nb.d(n:Nb):DataW Unit:=.agg [.lit (.int .i64 n.asks),.lit (.int .u8 n.k0.toNat),.lit (.int .u8 n.k1.toNat),.lit (.int .u8 n.k2.toNat),.lit (.int .u8 n.k3.toNat),.lit (.int .u8 n.k4.toNat),.lit (.int .u8 n.k5.toNat),.lit (.int .i64 n.till),.lit (.string n.load.data.toList)]
def bC:Nb:=⟨0,0,0,0,0,0,0,0,⟨#[]⟩⟩
theorem aN4(n:Nb):Qz n.v=some (n.d,[]):=rfl
theorem aF5{v:Value}{n:Nb}{ps:List MemPlace}(h:Qz v=some (n.d,ps)):v=n.v:=by
 unfold Qz at h
 split at h
 ·rename_i cs
  split at h
  ·rename_i a k0 k1 k2 k3 k4 k5 u s hcs
   simp only[aV7,Prod.mk.injEq,Nb.d,DataW.agg.injEq,List.cons.injEq,DataW.lit.injEq,Lit.int.injEq,Lit.string.injEq]at h;obtain⟨⟨⟨_,rfl⟩,⟨_,rfl⟩,⟨_,rfl⟩,⟨_,rfl⟩,⟨_,rfl⟩,⟨_,rfl⟩,⟨_,rfl⟩,⟨_,rfl⟩,hs,_⟩,_⟩:=h;have e:s=n.load:=by
    cases s;cases hl:n.load
    rw[hl]at hs;simp at hs;rw[hs]
   subst e;have:cs=(rF n.asks n.k0.toNat n.k1.toNat n.k2.toNat n.k3.toNat n.k4.toNat n.k5.toNat n.till n.load):=by
    rw[<-Array.toList_inj,hcs]
   rw[this];rfl
  simp at h
 simp at h
theorem aG2(a:Int)(h:0<=a/\a<=4294967295):keyOf Vh 36 (.int .u32 a)=some (.int .u32 a):=Maps.keyOf_int_mk ah (WalkArith.wf_u32 h)
theorem YE{bm n:Nat}{D:DataW Unit}(h:w.ownsMap Vh 36 Qz bm n D)(a:Int)(ha:0<=a/\a<=4294967295)(x:Nb)(hx:D.atKey (.int .u32 a) bC.d=x.d):
  (Instr.lookup 102 (.map (some bm)) (.int .u32 a) true).run Vh w=.ok (.tuple #[x.v,.bool (Maps.has D (.int .u32 a))]) w:=by
 obtain⟨v,ps,h1,h2⟩:=h.look_ok (ai ah) bf9 (VM w) (zd:=bC.d) (zp:=[]) rfl (aG2 a ha);rw[hx]at h2;rw[h1,aF5 h2]
theorem aa7{bm n n':Nat}{D:DataW Unit}(h:w.ownsMap Vh 36 Qz bm n D)(hs:Maps.size D<=n'):w.ownsMap Vh 36 Qz bm n' D:=by
 obtain⟨es,clock,hb,F,hz,rfl⟩:=h;refine⟨es,clock,hb,F,?_,rfl⟩;have e1:Maps.size (DataW.map ((es.toList.map (WideElems.rg Vh 36 Qz)).foldr DataW.insert []))=es.size:=by simp[Maps.size,DataW.length_sorted]
 omega
structure PU (w w':fV) (b:Nat):Prop where
 os:w'.os=w.os
 tape:w'.tape=w.tape
 output:w'.output=w.output
 size:w.heap.size<=w'.heap.size
 block:∀k,k<w.heap.size->k≠b->w'.heap[k]?=w.heap[k]?
theorem PU.of{u u':fV}{b:Nat}(hb:gm w.heap.size w u)(ht:u.mapTurned u' b):PU w u' b:=by
 obtain⟨es,c,es',c',h1,rfl⟩:=ht;exact⟨hb.os,hb.tape,hb.output,by simpa[ChangeMaps.setBlock]using hb.size,fun k hk hn=>(ChangeMaps.heap_setBlock_other h1 _ hn).trans (hb.block k hk)⟩
theorem Mx.ae3(h:Mx w0 P w B m){k:Nat}{a:Array Value}{t:TypeId}{z:Nat×Nat}(hk:w.heap[k]?=some (.cells a t z)):k≠m.bm:=by
 rintro rfl;obtain⟨es,c,h1,_⟩:=h.map;rw[hk]at h1;simp at h1
theorem Mx.mapped(h:Mx w0 P w B m)(t:PU w w' m.bm){D:DataW Unit}(ho:w'.ownsMap Vh 36 Qz m.bm 4 D):Mx w0 P w' B {m with cd:=D}:=
 {os:=t.os.trans h.os,tape:=t.tape.trans h.tape,output:=t.output.trans h.output,size:=aT9 h.size t.size
  kept:=fun k hk hP=>(t.block k (aU1 hk h.size) (by
   rintro rfl
   rcases h.own m.bm (aT7 (aT2 rfl))with e|e
   ·exact hP e
   omega)).trans (h.kept k hk hP)
  own:=h.own,low:=h.low,gl:=h.gl
  row:=(t.block B h.lt h.aW.symm).trans h.row
  map:=ho
  came:=h.came.other (t.block _ h.came.lt (by obtain⟨_,_,_,_,arr,h1,_⟩:=h.came;exact h.ae3 h1))
  goes:=h.goes.other (t.block _ h.goes.lt (by obtain⟨_,_,_,_,arr,h1,_⟩:=h.goes;exact h.ae3 h1))
  apart:=h.apart
  image:=iN h.image (fun k hk=>t.block k (h.image.lt k hk).2 (by
   rcases h.image.2 with⟨h1,_⟩|⟨g,cap,cur,e1,e2,e3,e4⟩
   ·rw[h1]at hk;cases hk
   rw[e1]at hk;have:g=k:=aU2 hk;subst this;exact h.ae3 e3))}
theorem aw4{bm:Nat}{D:DataW Unit}(hown:w.ownsMap Vh 36 Qz bm 4 D)(a:Int)(ha:0<=a/\a<=4294967295)(n x:Nb)(hx:D.atKey (.int .u32 a) bC.d=x.d)
  (hroom:Maps.has D (.int .u32 a)=true∨Maps.has D (.int .u32 a)=false/\Maps.size D<4) (hs:Maps.size (D.put (.int .u32 a) n.d)<=4):
  f_ Vh 134 #[.map (some bm),.int .u32 a,n.v] w fun ee w'=>ee=.returned (.tuple #[])/\w'.ownsMap Vh 36 Qz bm 4 (D.put (.int .u32 a) n.d)/\PU w w' bm:=by
 have hlt:=JA hown;obtain⟨o1,ho1⟩:=ex_ (Obj.cells (rF n.asks n.k0.toNat n.k1.toNat n.k2.toNat n.k3.toNat n.k4.toNat n.k5.toNat n.till n.load) 157 (0,0));have hL:(Instr.lookup 102 (.map (some bm)) (.int .u32 a) true).run Vh (w.alloc o1)=.ok (.tuple #[x.v,.bool (Maps.has D (.int .u32 a))]) (w.alloc o1):=YE (oP hown (aT1 w _ _ hlt)) a ha x hx;have HK:=M0 (aG2 a ha);have HR:=M0 (aN4 n);rw[ho1]at hL;unfold Nb.v at hL HR ⊢;have HB:Hid (∀o2:Obj,((w.alloc o1).alloc o2).heap[bm]?=w.heap[bm]?):=M0 (fun o2=>(aT1 (w.alloc o1) _ _ (by simp;omega)).trans (aT1 w _ _ hlt));have HBL:Hid (∀o2:Obj,gm w.heap.size w ((w.alloc o1).alloc o2)):=M0 (fun o2=>((aS8 _ _).alloc (aS5 _) o1).alloc (by simp) o2);rw[ho1]at HB HBL;clear ho1
 rcases hroom with hr|⟨hr,hr4⟩
 ·rw[hr]at hL
  go_enter func134,ntmps134;go_wp2_with (first|(at_mapUpdate;refine wpList_mapUpdate_in _ rfl _ _ _ 102 rfl 36 157 (ai ah) bf9 Qz bm 4 D rfl (oP hown (HB _)) (by decide) _ _ _ rfl rfl HK n.d [] (gB HR) ?_;intro w1 hown1 hturn1)|go_in);go_end0;exact⟨rfl,aa7 hown1 hs,PU.of (HBL _) hturn1⟩
 rw[hr]at hL;have HN:Hid (∀o2:Obj,∀ty,(Builtin.len_ #[102] ty #[.map (some bm)]).run Vh ((w.alloc (.cells (rF n.asks n.k0.toNat n.k1.toNat n.k2.toNat n.k3.toNat n.k4.toNat n.k5.toNat n.till n.load) 157 (0,0))).alloc o2)=.ok (.int .i64 (Maps.size D)) ((w.alloc (.cells (rF n.asks n.k0.toNat n.k1.toNat n.k2.toNat n.k3.toNat n.k4.toNat n.k5.toNat n.till n.load) 157 (0,0))).alloc o2)):=M0 (fun o2 ty=>(oP hown (HB o2)).len bf9 ty);have hN:=HN (.cells (rF x.asks x.k0.toNat x.k1.toNat x.k2.toNat x.k3.toNat x.k4.toNat x.k5.toNat x.till x.load) 157 (0,0)) 3;obtain⟨z,hz⟩:∃z:Int,z=(Maps.size D:Int):=⟨_,rfl⟩;have hz4:z≠4:=by omega
 rw[<-hz]at hN;have hzb:(z==4)=false:=by simpa using hz4
 clear hz HN;go_enter func134,ntmps134;go_wp2_with (first|(at_mapUpdate;refine wpList_mapUpdate_in _ rfl _ _ _ 102 rfl 36 157 (ai ah) bf9 Qz bm 4 D rfl (oP hown (HB _)) (by decide) _ _ _ rfl rfl HK n.d [] (gB HR) ?_;intro w1 hown1 hturn1)|go_in);go_end0;exact⟨rfl,aa7 hown1 hs,PU.of (HBL _) hturn1⟩
def Room(D:DataW Unit)(a:Int):Prop:=(0<=a/\a<=4294967295)/\(∃x:Nb,D.atKey (.int .u32 a) bC.d=x.d)/\(Maps.has D (.int .u32 a)=true∨Maps.has D (.int .u32 a)=false/\Maps.size D<4)/\∀d,Maps.size (D.put (.int .u32 a) d)<=4
def Mc.keep(m:Mc)(a:Int)(n:Nb):Mc:={m with cd:=m.cd.put (.int .u32 a) n.d}
theorem PU.cells{w w':fV}{b k:Nat}(t:PU w w' b){o:Obj}(hk:w.heap[k]?=some o)(hn:k≠b):w'.heap[k]?=some o:=(t.block k (gG hk) hn).trans hk
theorem Z6(h:Mx w0 P w B m){a:Int}(hr:Room m.cd a)(n:Nb):f_ Vh 134 #[.map (some m.bm),.int .u32 a,n.v] w fun ee w'=>ee=.returned (.tuple #[])/\Mx w0 P w' B (m.keep a n)/\PU w w' m.bm:=by
 obtain⟨ha,⟨x,hx⟩,h1,h2⟩:=hr;refine on_ (aw4 h.map a ha n x hx h1 (h2 _)) ?_;rintro w' ⟨ho,ht⟩;exact⟨rfl,h.mapped ht ho,ht⟩
end Js
namespace Js
open Bs
open Dh (gU gT jM kr iV ib lM heavy)
variable{w0:fV} {P:Nat→Prop} {w w':fV} {B:Nat} {m m':Mc}
def Mc.qD(m:Mc):gU:=[(50,g_ m.iB),(54,g_ m.iO)]
theorem yu(h:Mx w0 P w B m)(ho:m.Ok):f_ Vh 139 #[p_ B] w fun ee w'=>∃g,ee=.returned (.slice (some (a_ g 0)) 2 2)/\Mx w0 P w' B m/\w'.heap[g]?=some (.cells (gT m.qD).toArray 138 (0,0)):=by
 have HM:=M0 h;have HO:=M0 ho;have HK:Hid (∀u,gm w.heap.size w u->u.cell? (a_ B 27)=some (.int .u32 m.iB)/\u.cell? (a_ B 28)=some (.int .u32 m.iO)):=M0 (fun u hb=>⟨(h.below hb).uF,(h.below hb).c28⟩);have hlt:=h.lt;clear h ho;go_enter func139,ntmps139;go_wp2;refine wp_region_held_drew (S:=fun u=>u.cell? (a_ B 27)=some (.int .u32 m.iB)/\u.cell? (a_ B 28)=some (.int .u32 m.iO)) (by kernel_rfl) (HK _ ((aS8 _ _).drew)) (fun hHeld=> ?_);refine tkH_ (i:=0) (v:=(p_ B)) rfl (by kernel_rfl) (fun _ _ _ h=>h) (aT2 ⟨by rfl,?_⟩) hHeld ?_
 ·(intro wz hSz;go_simp)
 try simp only[Act.put,aR8,aR9,aS0]
 refine tkH_ (i:=1) (v:=(p_ B)) rfl (by kernel_rfl) (fun _ _ _ h=>h) (aT2 ⟨by rfl,?_⟩) hHeld ?_
 ·(intro wz hSz;go_simp)
 try simp only[Act.put,aR8,aR9,aS0]
 refine tkH_ (i:=2) (v:=(.pointer (some (a_ B 25)))) rfl (by kernel_rfl) (fun _ _ _ h=>h) (aT2 ⟨by rfl,?_⟩) hHeld ?_
 ·(intro wz hSz;go_simp)
 try simp only[Act.put,aR8,aR9,aS0]
 refine tkH_ (i:=3) (v:=(.pointer (some (a_ B 27)))) rfl (by kernel_rfl) (fun _ _ _ h=>h) (aT2 ⟨by rfl,?_⟩) hHeld ?_
 ·(intro wz hSz;go_simp)
 try simp only[Act.put,aR8,aR9,aS0]
 refine tkH_ (i:=4) (v:=(.int .u32 m.iB)) rfl (by kernel_rfl) (fun _ _ _ h=>h) (aT2 ⟨by rfl,?_⟩) hHeld ?_
 ·(intro wz hSz;go_simp)
 try simp only[Act.put,aR8,aR9,aS0]
 refine tkH_ (i:=7) (v:=(p_ B)) rfl (by kernel_rfl) (fun _ _ _ h=>h) (aT2 ⟨by rfl,?_⟩) hHeld ?_
 ·(intro wz hSz;go_simp)
 try simp only[Act.put,aR8,aR9,aS0]
 refine tkH_ (i:=8) (v:=(p_ B)) rfl (by kernel_rfl) (fun _ _ _ h=>h) (aT2 ⟨by rfl,?_⟩) hHeld ?_
 ·(intro wz hSz;go_simp)
 try simp only[Act.put,aR8,aR9,aS0]
 refine tkH_ (i:=9) (v:=(.pointer (some (a_ B 25)))) rfl (by kernel_rfl) (fun _ _ _ h=>h) (aT2 ⟨by rfl,?_⟩) hHeld ?_
 ·(intro wz hSz;go_simp)
 try simp only[Act.put,aR8,aR9,aS0]
 refine tkH_ (i:=10) (v:=(.pointer (some (a_ B 28)))) rfl (by kernel_rfl) (fun _ _ _ h=>h) (aT2 ⟨by rfl,?_⟩) hHeld ?_
 ·(intro wz hSz;go_simp)
 try simp only[Act.put,aR8,aR9,aS0]
 refine tkH_ (i:=11) (v:=(.int .u32 m.iO)) rfl (by kernel_rfl) (fun _ _ _ h=>h) (aT2 ⟨by rfl,?_⟩) hHeld ?_
 ·(intro wz hSz;go_simp)
 try simp only[Act.put,aR8,aR9,aS0]
 refine wpAnyH_ready (rs:=[5,12]) (by kernel_rfl) (by simp) ?_;refine AllReadyH.cons rfl (fun K hK=> ?_) (AllReadyH.cons rfl (fun K hK=> ?_) AllReadyH.nil)
 ·go_simp
  clear hHeld;refine hK.out _ _ ?_ (fun hHeld=> ?_)
  ·exact HK _ (by(repeat (first|exact aS8 _ _|(refine bc9 ?_)|(refine aZ3 ?_ (by first|(simp;done)|(simp;omega)) _))))
  clear hK K;try simp only[Act.put,aR8,aR9,aS0]
  refine wpAnyH_ready (rs:=[6,12]) (by kernel_rfl) (by simp) ?_;refine AllReadyH.cons rfl (fun K hK=> ?_) (AllReadyH.cons rfl (fun K hK=> ?_) AllReadyH.nil)
  ·go_simp
   refine on_ (jJ 50 m.iB w.heap.size _ (aS6 w (.cells #[.int .u32 m.iB] 36)) HO.iB) fun u1 hb1=>?_;have hw1:gm w.heap.size w u1:=bg6 (by(repeat (first|exact aS8 _ _|(refine bc9 ?_)|(refine aZ3 ?_ (by first|(simp;done)|(simp;omega)) _)))) (hb1.mono (by first|(simp;done)|(simp;omega)));have HW1:=M0 hw1;clear hb1 hw1;go_wp2_with fail;clear hHeld;refine hK.out _ _ ?_ (fun hHeld=> ?_)
   ·exact HK _ HW1
   clear hK K;try simp only[Act.put,aR8,aR9,aS0]
   refine wpAnyH_ready (rs:=[12]) (by kernel_rfl) (by simp) ?_;refine AllReadyH.cons rfl (fun K hK=> ?_) AllReadyH.nil;go_simp
   clear hHeld;refine hK.out _ _ ?_ (fun hHeld=> ?_)
   ·exact HK _ (HW1.alloc HW1.size _)
   clear hK K;try simp only[Act.put,aR8,aR9,aS0]
   refine wpAnyH_ready (rs:=[13]) (by kernel_rfl) (by simp) ?_;refine AllReadyH.cons rfl (fun K hK=> ?_) AllReadyH.nil;go_simp
   refine on_ (jJ 54 m.iO u1.heap.size _ (aS6 u1 (.cells #[.int .u32 m.iO] 36)) HO.iO) fun u2 hb2=>?_;have hw2:gm w.heap.size w u2:=bg6 (HW1.alloc HW1.size _) (hb2.mono (by have:=HW1.size;first|omega|(simp;omega)));have HW2:=M0 hw2;clear hb2 hw2;go_wp2_with fail;clear hHeld;refine hK.out _ _ ?_ (fun hHeld=> ?_)
   ·exact HK _ HW2
   clear hK K;try simp only[Act.put,aR8,aR9,aS0]
   refine wpAnyH_ready (rs:=[14]) (by kernel_rfl) (by simp) ?_;refine AllReadyH.cons rfl (fun K hK=> ?_) AllReadyH.nil;go_simp
   clear hHeld;refine hK.out _ _ ?_ (fun hHeld=> ?_)
   ·exact HK _ (HW2.alloc HW2.size _)
   clear hK K;try simp only[Act.put,aR8,aR9,aS0]
   refine wpAnyH_ready (rs:=[15]) (by kernel_rfl) (by simp) ?_;refine AllReadyH.cons rfl (fun K hK=> ?_) AllReadyH.nil;go_simp
   clear hHeld;refine hK.out _ _ ?_ (fun hHeld=> ?_)
   ·exact HK _ (HW2.alloc HW2.size _)
   clear hK K;try simp only[Act.put,aR8,aR9,aS0]
   refine aY2 (by kernel_rfl) ?_ _;have HF:=M0 ((HM.below HW2).alloc (.cells #[.int .u8 50,.string ⟨(g_ m.iB).toArray⟩,.int .u8 54,.string ⟨(g_ m.iO).toArray⟩] 138));have HR:=M0 (aS6 u2 (.cells #[.int .u8 50,.string ⟨(g_ m.iB).toArray⟩,.int .u8 54,.string ⟨(g_ m.iO).toArray⟩] 138));clear hHeld;go_wp2;go_ret;exact⟨_,rfl,HF,HR⟩
  go_simp
  clear hHeld;refine hK.out _ _ ?_ (fun hHeld=> ?_)
  ·exact HK _ (by(repeat (first|exact aS8 _ _|(refine bc9 ?_)|(refine aZ3 ?_ (by first|(simp;done)|(simp;omega)) _))))
  clear hK K;try simp only[Act.put,aR8,aR9,aS0]
  refine wpAnyH_ready (rs:=[6]) (by kernel_rfl) (by simp) ?_;refine AllReadyH.cons rfl (fun K hK=> ?_) AllReadyH.nil;go_simp
  refine on_ (jJ 50 m.iB w.heap.size _ (nA w (.cells #[.int .u32 m.iB] 36) (.cells #[.int .u32 m.iO] 36)) HO.iB) fun u1 hb1=>?_;have hw1:gm w.heap.size w u1:=bg6 (by(repeat (first|exact aS8 _ _|(refine bc9 ?_)|(refine aZ3 ?_ (by first|(simp;done)|(simp;omega)) _)))) (hb1.mono (by first|(simp;done)|(simp;omega)));have HW1:=M0 hw1;have HG2:Hid (u1.heap[w.heap.size+1]?=some (.cells #[.int .u32 m.iO] 36 (0,0))):=M0 ((hb1.block (w.heap.size+1) (by first|(simp;done)|(simp;omega))).trans (jq w (.cells #[.int .u32 m.iB] 36) (.cells #[.int .u32 m.iO] 36)));clear hb1 hw1;go_wp2_with fail;clear hHeld;refine hK.out _ _ ?_ (fun hHeld=> ?_)
  ·exact HK _ HW1
  clear hK K;try simp only[Act.put,aR8,aR9,aS0]
  refine wpAnyH_ready (rs:=[13]) (by kernel_rfl) (by simp) ?_;refine AllReadyH.cons rfl (fun K hK=> ?_) AllReadyH.nil;go_simp
  refine on_ (jJ 54 m.iO (w.heap.size+1) _ HG2 HO.iO) fun u2 hb2=>?_;have hw2:gm w.heap.size w u2:=bg6 HW1 (hb2.mono (by have:=HW1.size;first|omega|(simp;omega)));have HW2:=M0 hw2;clear hb2 hw2;go_wp2_with fail;clear hHeld;refine hK.out _ _ ?_ (fun hHeld=> ?_)
  ·exact HK _ HW2
  clear hK K;try simp only[Act.put,aR8,aR9,aS0]
  refine wpAnyH_ready (rs:=[14]) (by kernel_rfl) (by simp) ?_;refine AllReadyH.cons rfl (fun K hK=> ?_) AllReadyH.nil;go_simp
  clear hHeld;refine hK.out _ _ ?_ (fun hHeld=> ?_)
  ·exact HK _ (HW2.alloc HW2.size _)
  clear hK K;try simp only[Act.put,aR8,aR9,aS0]
  refine wpAnyH_ready (rs:=[15]) (by kernel_rfl) (by simp) ?_;refine AllReadyH.cons rfl (fun K hK=> ?_) AllReadyH.nil;go_simp
  clear hHeld;refine hK.out _ _ ?_ (fun hHeld=> ?_)
  ·exact HK _ (HW2.alloc HW2.size _)
  clear hK K;try simp only[Act.put,aR8,aR9,aS0]
  refine aY2 (by kernel_rfl) ?_ _;have HF:=M0 ((HM.below HW2).alloc (.cells #[.int .u8 50,.string ⟨(g_ m.iB).toArray⟩,.int .u8 54,.string ⟨(g_ m.iO).toArray⟩] 138));have HR:=M0 (aS6 u2 (.cells #[.int .u8 50,.string ⟨(g_ m.iB).toArray⟩,.int .u8 54,.string ⟨(g_ m.iO).toArray⟩] 138));clear hHeld;go_wp2;go_ret;exact⟨_,rfl,HF,HR⟩
 go_simp
 clear hHeld;refine hK.out _ _ ?_ (fun hHeld=> ?_)
 ·exact HK _ (by(repeat (first|exact aS8 _ _|(refine bc9 ?_)|(refine aZ3 ?_ (by first|(simp;done)|(simp;omega)) _))))
 clear hK K;try simp only[Act.put,aR8,aR9,aS0]
 refine wpAnyH_ready (rs:=[5]) (by kernel_rfl) (by simp) ?_;refine AllReadyH.cons rfl (fun K hK=> ?_) AllReadyH.nil;go_simp
 clear hHeld;refine hK.out _ _ ?_ (fun hHeld=> ?_)
 ·exact HK _ (by(repeat (first|exact aS8 _ _|(refine bc9 ?_)|(refine aZ3 ?_ (by first|(simp;done)|(simp;omega)) _))))
 clear hK K;try simp only[Act.put,aR8,aR9,aS0]
 refine wpAnyH_ready (rs:=[6]) (by kernel_rfl) (by simp) ?_;refine AllReadyH.cons rfl (fun K hK=> ?_) AllReadyH.nil;go_simp
 refine on_ (jJ 50 m.iB (w.heap.size+1) _ (jq w (.cells #[.int .u32 m.iO] 36) (.cells #[.int .u32 m.iB] 36)) HO.iB) fun u1 hb1=>?_;have hw1:gm w.heap.size w u1:=bg6 (by(repeat (first|exact aS8 _ _|(refine bc9 ?_)|(refine aZ3 ?_ (by first|(simp;done)|(simp;omega)) _)))) (hb1.mono (by first|(simp;done)|(simp;omega)));have HW1:=M0 hw1;have HG2:Hid (u1.heap[w.heap.size]?=some (.cells #[.int .u32 m.iO] 36 (0,0))):=M0 ((hb1.block w.heap.size (by first|(simp;done)|(simp;omega))).trans (nA w (.cells #[.int .u32 m.iO] 36) (.cells #[.int .u32 m.iB] 36)));clear hb1 hw1;go_wp2_with fail;clear hHeld;refine hK.out _ _ ?_ (fun hHeld=> ?_)
 ·exact HK _ HW1
 clear hK K;try simp only[Act.put,aR8,aR9,aS0]
 refine wpAnyH_ready (rs:=[13]) (by kernel_rfl) (by simp) ?_;refine AllReadyH.cons rfl (fun K hK=> ?_) AllReadyH.nil;go_simp
 refine on_ (jJ 54 m.iO w.heap.size _ HG2 HO.iO) fun u2 hb2=>?_;have hw2:gm w.heap.size w u2:=bg6 HW1 (hb2.mono (by have:=HW1.size;first|omega|(simp;omega)));have HW2:=M0 hw2;clear hb2 hw2;go_wp2_with fail;clear hHeld;refine hK.out _ _ ?_ (fun hHeld=> ?_)
 ·exact HK _ HW2
 clear hK K;try simp only[Act.put,aR8,aR9,aS0]
 refine wpAnyH_ready (rs:=[14]) (by kernel_rfl) (by simp) ?_;refine AllReadyH.cons rfl (fun K hK=> ?_) AllReadyH.nil;go_simp
 clear hHeld;refine hK.out _ _ ?_ (fun hHeld=> ?_)
 ·exact HK _ (HW2.alloc HW2.size _)
 clear hK K;try simp only[Act.put,aR8,aR9,aS0]
 refine wpAnyH_ready (rs:=[15]) (by kernel_rfl) (by simp) ?_;refine AllReadyH.cons rfl (fun K hK=> ?_) AllReadyH.nil;go_simp
 clear hHeld;refine hK.out _ _ ?_ (fun hHeld=> ?_)
 ·exact HK _ (HW2.alloc HW2.size _)
 clear hK K;try simp only[Act.put,aR8,aR9,aS0]
 refine aY2 (by kernel_rfl) ?_ _;have HF:=M0 ((HM.below HW2).alloc (.cells #[.int .u8 50,.string ⟨(g_ m.iB).toArray⟩,.int .u8 54,.string ⟨(g_ m.iO).toArray⟩] 138));have HR:=M0 (aS6 u2 (.cells #[.int .u8 50,.string ⟨(g_ m.iB).toArray⟩,.int .u8 54,.string ⟨(g_ m.iO).toArray⟩] 138));clear hHeld;go_wp2;go_ret;exact⟨_,rfl,HF,HR⟩
theorem zU(m:Mc):heavy m.qD<=1000:=by simp[heavy,Mc.qD,g_,iY,iy]
theorem Df(h:Mx w0 P w B m)(ho:m.Ok)(kb:UInt8)(hk4:kb.toNat≠4)(g:Nat)(os:gU)(hg:w.heap[g]?=some (.cells (gT os).toArray 138 (0,0)))(hl:os.length<=4)(hh:heavy os<=1000):
  f_ Vh 138 #[p_ B,.int .u8 kb.toNat,.slice (some (a_ g 0)) os.length os.length] w fun ee w'=>
   ee=.returned (.tuple #[])/\Mx w0 P w' B (m.say kb os):=by
 have HS:=M0 (Io h ho kb hk4 g os hg hl hh);have hz:=af5 false m.gF m.addr 0 0 m.card (kY kb os);have HE:Hid (m.say kb os=m.Cz 68 67 (m.qz kb os)):=M0 rfl;obtain⟨L,hL⟩:=ex_ (m.qz kb os);have hLz:L.size<=1472:=by rw[hL];exact hz
 rw[<-hL]at HS HE;obtain⟨n,hn⟩:=ex_ os.length;rw[<-hn]at HS ⊢;clear h hk4 hL hz hn hg hl hh;go_enter func138,ntmps138;go_wp2_with fail;refine on_ HS fun u hu=>?_;have HU:=M0 hu;clear hu HS;go_wp2_with fail;refine on_ (xP HU ho 68 67 L (by omega) (by omega) (by omega)) fun u2 hu2=>?_;have HU2:=M0 hu2;clear hu2 HU;go_wp2;go_end0;rw[gB HE];exact⟨rfl,HU2⟩
theorem LP(h:Mx w0 P w B m)(ho:m.Ok)(g:Nat)(os:gU)(hg:w.heap[g]?=some (.cells (gT os).toArray 138 (0,0)))(hl:os.length<=4)(hh:heavy os<=1000):
  f_ Vh 138 #[p_ B,.int .u8 4,.slice (some (a_ g 0)) os.length os.length] w fun ee w'=>
   ee=.returned (.tuple #[])/\Mx w0 P w' B (m.say 4 os):=by
 have HS:=M0 (F_ h ho g os hg hl hh);have hz:=af5 false m.gF m.addr 0 0 m.card (kY 4 os);have HE:Hid (m.say 4 os=m.Cz 68 67 (m.qz 4 os)):=M0 rfl;obtain⟨L,hL⟩:=ex_ (m.qz 4 os);have hLz:L.size<=1472:=by rw[hL];exact hz
 rw[<-hL]at HS HE;obtain⟨n,hn⟩:=ex_ os.length;rw[<-hn]at HS ⊢;clear h hL hz hn hg hl hh;go_enter func138,ntmps138;go_wp2_with fail;refine on_ HS fun u hu=>?_;have HU:=M0 hu;clear hu HS;go_wp2_with fail;refine on_ (xP HU ho 68 67 L (by omega) (by omega) (by omega)) fun u2 hu2=>?_;have HU2:=M0 hu2;clear hu2 HU;go_wp2;go_end0;rw[gB HE];exact⟨rfl,HU2⟩
theorem Ce(h:Mx w0 P w B m)(ho:m.Ok)(hst:m.st=2)(hw:m.ws<=3):f_ Vh 88 #[p_ B] w fun ee w'=>ee=.returned (.tuple #[])/\Mx w0 P w' B (m.jR.say 3 m.qD):=by
 have HM:=M0 h;have yg:=h.yg;have yE:=h.yE;have HW:=M0 (wJ h ho m.ws m.wu ho.ws);have HO:=M0 (ho.jR hw);clear h;go_enter func88,ntmps88;go_wp2_with fail;refine on_ HW fun u hu=>?_;have d29:=hu.yg;have g29:=hu.free 29;have d30:=hu.yE;have g30:=hu.free 30;have d25:=hu.nk;rw[hst]at d25;have HU:=M0 ((hu.SE (m.ws+1)).aO3 (wrap64 (m.now+m.Ez m.ws)));clear hu HW;go_wp2_with fail;refine(yu HU HO).mono ?_;rintro ee u1 ⟨g,rfl,hu1,hg1⟩;have HU1:=M0 hu1;have HG1:=M0 hg1;clear hu1 hg1 HU;go_wp2_with fail;refine on_ (Df HU1 HO 3 (by decide) g m.qD HG1 (by show(2:Nat)<=4;omega) (zU m)) fun u2 hu2=>?_;have HU2:=M0 hu2;clear hu2 HU1;go_wp2;go_end0;exact⟨rfl,HU2⟩
def Mc.Lm(m:Mc):Mc:=if m.now<m.wu then m else if m.ws=4 then m.fail else m.jR.say 3 m.qD
theorem DX(h:Mx w0 P w B m)(ho:m.Ok)(hst:m.st=2):f_ Vh 87 #[p_ B,.agg #[.int .i64 m.ws,.int .i64 m.wu],.func (.func 88) #[] #[]] w fun ee w'=>ee=.returned (.tuple #[])/\∃b,Mx w0 P w' B (m.Lm.at b):=by
 have HM:=M0 (h.alloc (.cells #[.int .i64 m.ws,.int .i64 m.wu] 107));have c14:=h.c14;have hlt:=h.lt;clear h
 by_cases h1:m.now<m.wu
 ·have HE:Hid (m.Lm=m):=M0 (by unfold Mc.Lm;rw[aU0 h1])
  go_enter func87,ntmps87;go_wp2;go_quiet (fail);go_wp2;go_end0;refine⟨rfl,m.bm,?_⟩;rw[gB HE,mi];exact HM.like ⟨rfl,rfl,rfl,rfl⟩
 by_cases h2:m.ws=4
 ·have HE:Hid (m.Lm=m.fail):=M0 (by unfold Mc.Lm;rw[aT4 h1,aU0 h2])
  have HF:=fun(k:Nat)=>M0 (oM (w:=(w.alloc (.cells #[.int .i64 m.ws,.int .i64 m.wu] 107)).drewN k) (HM.like ⟨rfl,rfl,rfl,rfl⟩));clear HM;have h2b:(m.ws==4)=true:=by simpa using h2
  rw[h2]at HF ⊢;clear h2 h2b;go_enter func87,ntmps87;go_wp2;go_quiet (fail);go_wp2_with fail;refine on_ (gB (HF _)) ?_;rintro u ⟨b,hu⟩;have HU:=M0 hu;clear hu HF;go_wp2;go_end0;refine⟨rfl,b,?_⟩;rw[gB HE];exact HU
 have HE:Hid (m.Lm=m.jR.say 3 m.qD):=M0 (by unfold Mc.Lm;rw[aT4 h1,aT4 h2]);have HF:=fun(k:Nat)=>M0 (Ce (w:=(w.alloc (.cells #[.int .i64 m.ws,.int .i64 m.wu] 107)).drewN k) (HM.like ⟨rfl,rfl,rfl,rfl⟩) ho hst (by have:=ho.ws;omega));clear HM;have h2b:(m.ws==4)=false:=by simpa using h2
 clear h2;go_enter func87,ntmps87;go_wp2;go_quiet (fail);go_wp2_with fail;refine on_ (gB (HF _)) fun u hu=>?_;have HU:=M0 hu;clear hu HF;go_wp2;go_end0;refine⟨rfl,(m.jR.say 3 m.qD).bm,?_⟩;rw[gB HE,mi];exact HU
theorem Bn(h:Mx w0 P w B m)(ho:m.Ok)(hst:m.st=2):f_ Vh 50 #[p_ B] w fun ee w'=>ee=.returned (.tuple #[])/\∃b,Mx w0 P w' B (m.Lm.at b):=by
 have nk:=h.nk;rw[hst]at nk;have yg:=h.yg;have yE:=h.yE;have HT:=M0 (DX h ho hst);clear h;go_enter func50,ntmps50;go_wp2_with fail;refine on_ HT ?_;rintro u ⟨b,hu⟩;have HU:=M0 hu;clear hu HT;go_wp2;go_end0;exact⟨rfl,b,HU⟩
def Mc.oV(m:Mc):Mc:={m with st:=2,ws:=0,wu:=0}
theorem Mc.Ok.oV{m:Mc}(h:m.Ok):m.oV.Ok:=by
 obtain⟨a1,a2,a3,a4,a5,a6,a7,a8,a9,a10,a11,a12,a13,a14,a15,a16⟩:=h;exact⟨a1,a2,a3,a4,a5,by show(0:Int)<=0/\(0:Int)<=4;omega,a7,a8,a9,a10,a11,a12,a13,a14,a15,a16⟩
theorem au5(h:Mx w0 P w B m)(ho:m.Ok):f_ Vh 86 #[p_ B,.int .i64 2] w fun ee w'=>ee=.returned (.tuple #[])/\Mx w0 P w' B (m.oV.jR.say 3 m.qD):=by
 have nk:=h.nk;have f25:=h.free 25;have yg:=h.yg;have f29:=h.free 29;have yE:=h.yE;have f30:=h.free 30;have HM:=M0 (((h.TN 2).SE 0).aO3 0);clear h;go_enter func86,ntmps86;go_wp2_with fail;refine on_ (Ce (m:=m.oV) HM ho.oV rfl (by show(0:Int)<=3;omega)) fun u hu=>?_;have HU:=M0 hu;clear hu HM;go_wp2;go_end0;exact⟨rfl,HU⟩
end Js
namespace Js
open Bs
variable{w0:fV} {P:Nat→Prop} {w w':fV} {B:Nat} {m m':Mc}
def Mc.Ej(m:Mc)(a:Int):ByteArray:=WM.vE 1 m.card 0 [0,0,0,0,0,0] a
theorem Cq(op:Int)(fm:List UInt8)(hf:fm.length=6)(fi:Int)(tm:List UInt8)(ht:tm.length=6)(ti:Int):(WM.vE op fm fi tm ti).size<=1500:=by
 unfold WM.vE
 split
 ·show(WM.GJ op fm fi tm ti).toArray.size<=1500
  simp[WM.GJ,iy,g_,iY,hf,ht]
 decide
def Mc.ask(m:Mc)(a:Int):Mc:=m.send [255,255,255,255,255,255] 2054 (m.Ej a)
theorem NN{u:fV}{g:Nat}{t:TypeId}{b0 b1 b2 b3 b4 b5 b6 b7 b8 b9 b10 b11 b12 b13 b14:Value}(h:u.heap[g]?=some (.cells #[b0,b1,b2,b3,b4,b5,b6,b7,b8,b9,b10,b11,b12,b13,b14] t (0,0))):
  u.cell? (a_ g 0)=some b0/\u.cell? (a_ g 1)=some b1/\u.cell? (a_ g 2)=some b2/\u.cell? (a_ g 3)=some b3/\u.cell? (a_ g 4)=some b4/\u.cell? (a_ g 5)=some b5/\u.cell? (a_ g 6)=some b6/\u.cell? (a_ g 7)=some b7/\u.cell? (a_ g 8)=some b8/\u.cell? (a_ g 9)=some b9/\u.cell? (a_ g 10)=some b10/\u.cell? (a_ g 11)=some b11/\u.cell? (a_ g 12)=some b12/\u.cell? (a_ g 13)=some b13/\u.cell? (a_ g 14)=some b14:=by
 have q:=fun j=>aS3 u g j _ _ _ h;exact⟨q 0,q 1,q 2,q 3,q 4,q 5,q 6,q 7,q 8,q 9,q 10,q 11,q 12,q 13,q 14⟩
def Mc.ah5(m:Mc)(a:Int):ByteArray:=WM.vE 1 m.card m.addr [0,0,0,0,0,0] a
def Mc.aH2(m:Mc)(a:Int):Mc:=m.send [255,255,255,255,255,255] 2054 (m.ah5 a)
theorem aE1(h:Mx w0 P w B m)(hst:0<=m.addr/\m.addr<=4294967295)(a:Int)(ha:0<=a/\a<=4294967295):f_ Vh 135 #[p_ B,.int .u32 a] w fun ee w'=>ee=.returned (.tuple #[])/\Mx w0 P w' B (m.aH2 a):=by
 have hz:=Cq 1 m.card rfl m.addr [0,0,0,0,0,0] rfl a;have HAD:Hid (∀u,Mx w0 P u B m->f_ Vh 47 #[p_ B] u fun e w'=>e=.returned (.int .u32 m.addr)/\w'=u):=M0 (fun u hu=>lL hu);have HWA:Hid (∀u,f_ Vh 64 #[.agg (rE 1 m.k0.toNat m.k1.toNat m.k2.toNat m.k3.toNat m.k4.toNat m.k5.toNat m.addr 0 0 0 0 0 0 a)] u fun ee w'=>ee=.returned (.tuple #[.string (m.ah5 a),.int .i64 (WM.Bu 1)])/\gm u.heap.size u w'):=M0 (fun u=>WM.lq 1 m.k0 m.k1 m.k2 m.k3 m.k4 m.k5 m.addr 0 0 0 0 0 0 a u (by decide) (by decide) hst.1 hst.2 ha.1 ha.2);have HSD:Hid (∀(w0:fV) (P:Nat->Prop) (u:fV),Mx w0 P u B m->f_ Vh 174 #[p_ B,.agg (rT 255 255 255 255 255 255),.int .u16 2054,.string (m.ah5 a)] u fun ee w'=>ee=.returned (.tuple #[])/\Mx w0 P w' B (m.aH2 a)):=M0 (fun w0 P u hu=>sP hu 255 255 255 255 255 255 2054 (m.ah5 a) (by decide) (by decide) (aT9 hz (by decide)));have HM:=M0 h;have HK:Hid (∀u,gm w.heap.size w u->c_ u B 1 (.int .u8 m.k0.toNat)/\c_ u B 2 (.int .u8 m.k1.toNat)/\c_ u B 3 (.int .u8 m.k2.toNat)/\c_ u B 4 (.int .u8 m.k3.toNat)/\c_ u B 5 (.int .u8 m.k4.toNat)/\c_ u B 6 (.int .u8 m.k5.toNat)):=M0 (fun u hb=>⟨(h.below hb).c1,(h.below hb).c2,(h.below hb).c3,(h.below hb).c4,(h.below hb).c5,(h.below hb).c6⟩);have hlt:=h.lt;obtain⟨AB,hAB⟩:=ex_ (m.ah5 a);obtain⟨ke,hke⟩:=ex_ (WM.Bu 1);rw[<-hAB]at HWA HSD;obtain⟨ad,had⟩:=ex_ m.addr;rw[<-had]at HWA HAD;rw[<-hke]at HWA;clear h hst ha hz hAB hke had;go_enter func135,ntmps135;go_wp2;go_cut [4] (fun s4 wc=>s4=(p_ w.heap.size)/\Hid (Mx w0 P wc B m/\wc.heap[w.heap.size]?=some (.cells (rE 1 m.k0.toNat m.k1.toNat m.k2.toNat m.k3.toNat m.k4.toNat m.k5.toNat ad 0 0 0 0 0 0 a) 87 (0,0))));case first=>
  go_region_held3 (fun u=>c_ u B 1 (.int .u8 m.k0.toNat)/\c_ u B 2 (.int .u8 m.k1.toNat)/\c_ u B 3 (.int .u8 m.k2.toNat)/\c_ u B 4 (.int .u8 m.k3.toNat)/\c_ u B 5 (.int .u8 m.k4.toNat)/\c_ u B 6 (.int .u8 m.k5.toNat)) (exact HK _ (by(repeat (first|exact aS8 _ _|(refine bc9 ?_)|(refine aZ3 ?_ (by first|(simp;done)|(simp;omega)) _)))))
   (first|(go_at_call 47;refine aV5 (HAD _ ?_) ?_;exact HM.below (by(repeat (first|exact aS8 _ _|(refine bc9 ?_)|(refine aZ3 ?_ (by first|(simp;done)|(simp;omega)) _))));rintro ee u2 ⟨rfl,rfl⟩))
  all_goals go_wp2
  all_goals go_meet
  all_goals exact⟨rfl,M0 ⟨HM.below (by(repeat (first|exact aS8 _ _|(refine bc9 ?_)|(refine aZ3 ?_ (by first|(simp;done)|(simp;omega)) _)))),aS6 w _⟩⟩
 rename fV=>x;obtain⟨rfl,HC⟩:=hcut;have HX:=M0 HC.1;have HR:=M0 HC.2;have HKS:Hid (∀u,gm x.heap.size x u->(c_ u 2 0 (.int .u8 255)/\c_ u 2 1 (.int .u8 255)/\c_ u 2 2 (.int .u8 255)/\c_ u 2 3 (.int .u8 255)/\c_ u 2 4 (.int .u8 255)/\c_ u 2 5 (.int .u8 255))/\(c_ u w.heap.size 0 (.int .u16 1)/\c_ u w.heap.size 1 (.int .u8 m.k0.toNat)/\c_ u w.heap.size 2 (.int .u8 m.k1.toNat)/\c_ u w.heap.size 3 (.int .u8 m.k2.toNat)/\c_ u w.heap.size 4 (.int .u8 m.k3.toNat)/\c_ u w.heap.size 5 (.int .u8 m.k4.toNat)/\c_ u w.heap.size 6 (.int .u8 m.k5.toNat)/\c_ u w.heap.size 7 (.int .u32 ad)/\c_ u w.heap.size 8 (.int .u8 0)/\c_ u w.heap.size 9 (.int .u8 0)/\c_ u w.heap.size 10 (.int .u8 0)/\c_ u w.heap.size 11 (.int .u8 0)/\c_ u w.heap.size 12 (.int .u8 0)/\c_ u w.heap.size 13 (.int .u8 0)/\c_ u w.heap.size 14 (.int .u32 a))):=M0 (fun u hb=>⟨(HX.below hb).YK,NN ((hb.block w.heap.size (aT3 HR)).trans HR)⟩);have HFOOT:Hid (¬iq B m w.heap.size/\w0.heap.size<=w.heap.size):=M0 ⟨fun hf=>by have:=HM.ik hf;omega,HM.size⟩;clear HK HAD hlt HC;go_wp2;go_region_held3 (fun u=>(c_ u 2 0 (.int .u8 255)/\c_ u 2 1 (.int .u8 255)/\c_ u 2 2 (.int .u8 255)/\c_ u 2 3 (.int .u8 255)/\c_ u 2 4 (.int .u8 255)/\c_ u 2 5 (.int .u8 255))/\(c_ u w.heap.size 0 (.int .u16 1)/\c_ u w.heap.size 1 (.int .u8 m.k0.toNat)/\c_ u w.heap.size 2 (.int .u8 m.k1.toNat)/\c_ u w.heap.size 3 (.int .u8 m.k2.toNat)/\c_ u w.heap.size 4 (.int .u8 m.k3.toNat)/\c_ u w.heap.size 5 (.int .u8 m.k4.toNat)/\c_ u w.heap.size 6 (.int .u8 m.k5.toNat)/\c_ u w.heap.size 7 (.int .u32 ad)/\c_ u w.heap.size 8 (.int .u8 0)/\c_ u w.heap.size 9 (.int .u8 0)/\c_ u w.heap.size 10 (.int .u8 0)/\c_ u w.heap.size 11 (.int .u8 0)/\c_ u w.heap.size 12 (.int .u8 0)/\c_ u w.heap.size 13 (.int .u8 0)/\c_ u w.heap.size 14 (.int .u32 a))) (first|exact HKS _ ((aS8 _ _).drew)|exact HKS _ HB1|exact⟨H3.YK,NN ((H3.kept w.heap.size (aT3 HR) HFOOT.1).trans HR)⟩)
  (first|(go_at_call 64;refine(HWA _).mono ?_;rintro ee u1 ⟨rfl,hb1⟩;have HB1:=M0 (((aS8 x.heap.size x).drew).trans hb1);clear hb1)|(go_at_call 175;refine(WQ _ _ _).mono ?_;rintro ee u2 ⟨rfl,rfl⟩)|(go_at_call 174;refine(HSD x (iq B m) _ (HX.base.below HB1)).mono ?_;rintro ee u3 ⟨rfl,h3⟩;have H3:=M0 h3;clear h3))
 go_wp2;go_end0;exact⟨rfl,HX.join H3⟩
theorem DW(h:Mx w0 P w B m)(hst:m.st<4)(a:Int)(ha:0<=a/\a<=4294967295):f_ Vh 135 #[p_ B,.int .u32 a] w fun ee w'=>ee=.returned (.tuple #[])/\Mx w0 P w' B (m.ask a):=by
 have e:m.addr=0:=by unfold Mc.addr;rw[aU0 hst]
 have q:=aE1 h (by rw[e];decide) a ha;rw[show m.aH2 a=m.ask a by unfold Mc.aH2 Mc.ask Mc.ah5 Mc.Ej;rw[e]]at q;exact q
def Nb.more(n:Nb)(now:Int):Nb:={n with asks:=wrap64 (n.asks+1),till:=wrap64 (now+2)}
def Mc.aK0(m:Mc)(a:Int)(n:Nb):Mc:=(m.keep a (n.more m.now)).aH2 a
theorem VI(h:Mx w0 P w B m){a:Int}(n:Nb)(Y Z:Mc->Prop)(hK:∀u,Mx w0 P u B m->f_ Vh 134 #[.map (some m.bm),.int .u32 a,(n.more m.now).v] u fun ee w'=>ee=.returned (.tuple #[])/\∃mz,(Y mz/\mz.bm=m.bm)/\Mx w0 P w' B mz/\PU u w' m.bm)
  (hA:∀mz u,Y mz->Mx w0 P u B mz->f_ Vh 135 #[p_ B,.int .u32 a] u fun ee w'=>ee=.returned (.tuple #[])/\∃my,Z my/\Mx w0 P w' B my):
  f_ Vh 85 #[p_ B,.int .u32 a,n.v] w fun ee w'=>ee=.returned (.tuple #[])/\∃my,Z my/\Mx w0 P w' B my:=by
 have HM:=M0 h;have c0:=h.c0;have c14:=h.c14;have hlt:=h.lt;have hB:B≠w.heap.size:=aU4 hlt;have HK:=M0 hK;have HA:=M0 hA;unfold Nb.more at HK;unfold Nb.v at HK ⊢;clear h hK hA;go_enter func85,ntmps85;go_wp2;obtain⟨X,hX⟩:=ex_ (w.alloc (.cells (rF (wrap64 (n.asks+1)) n.k0.toNat n.k1.toNat n.k2.toNat n.k3.toNat n.k4.toNat n.k5.toNat (wrap64 (m.now+2)) n.load) 157 (0,0)));have HX:Hid (Mx w0 P X B m/\X.heap[w.heap.size]?=some (.cells (rF (wrap64 (n.asks+1)) n.k0.toNat n.k1.toNat n.k2.toNat n.k3.toNat n.k4.toNat n.k5.toNat (wrap64 (m.now+2)) n.load) 157 (0,0))/\w.heap.size≠m.bm):=M0 (by
  rw[hX];exact⟨HM.alloc _,aS6 w _,fun e=>by have:=HM.ik (aT7 (aT2 e));omega⟩)
 have HC:Hid (∀u:fV,u.heap[w.heap.size]?=some (.cells (rF (wrap64 (n.asks+1)) n.k0.toNat n.k1.toNat n.k2.toNat n.k3.toNat n.k4.toNat n.k5.toNat (wrap64 (m.now+2)) n.load) 157 (0,0))->c_ u w.heap.size 0 (.int .i64 (wrap64 (n.asks+1)))/\c_ u w.heap.size 1 (.int .u8 n.k0.toNat)/\c_ u w.heap.size 2 (.int .u8 n.k1.toNat)/\c_ u w.heap.size 3 (.int .u8 n.k2.toNat)/\c_ u w.heap.size 4 (.int .u8 n.k3.toNat)/\c_ u w.heap.size 5 (.int .u8 n.k4.toNat)/\c_ u w.heap.size 6 (.int .u8 n.k5.toNat)/\c_ u w.heap.size 7 (.int .i64 (wrap64 (m.now+2)))/\c_ u w.heap.size 8 (.string n.load)):=M0 (fun u hu=>by
  have q:=fun j=>aS3 u _ j _ _ _ hu
  exact⟨q 0,q 1,q 2,q 3,q 4,q 5,q 6,q 7,q 8⟩)
 rw[<-hX];clear hX c0 c14 HM;go_region_held3 (fun u=>c_ u B 0 (.map (some m.bm))/\c_ u w.heap.size 0 (.int .i64 (wrap64 (n.asks+1)))/\c_ u w.heap.size 1 (.int .u8 n.k0.toNat)/\c_ u w.heap.size 2 (.int .u8 n.k1.toNat)/\c_ u w.heap.size 3 (.int .u8 n.k2.toNat)/\c_ u w.heap.size 4 (.int .u8 n.k3.toNat)/\c_ u w.heap.size 5 (.int .u8 n.k4.toNat)/\c_ u w.heap.size 6 (.int .u8 n.k5.toNat)/\c_ u w.heap.size 7 (.int .i64 (wrap64 (m.now+2)))/\c_ u w.heap.size 8 (.string n.load)) (first|exact⟨HX.1.c0,HC _ HX.2.1⟩|exact⟨(gB HBM)▸H1.c0,HC _ HR⟩)
  (first|(go_at_call 134;refine(HK _ HX.1.drew).mono ?_;rintro ee u ⟨rfl,mz,⟨hy,hbm⟩,h1,t1⟩;have HY:=M0 hy;have HBM:=M0 hbm;clear hy hbm;have H1:=M0 h1;have HR:=M0 (t1.cells HX.2.1 HX.2.2);clear h1 t1))
 clear HX HC HR;go_wp2_with fail;refine on_ (HA _ _ HY H1) ?_;rintro u2 ⟨my,hz,h2⟩;have H2:=M0 (show ∃my,Z my/\Mx w0 P u2 B my from⟨my,hz,h2⟩);clear hz h2;go_wp2;go_end0;exact⟨rfl,H2⟩
theorem ay5(h:Mx w0 P w B m)(ho:m.Ok){a:Int}(hr:Room m.cd a)(n:Nb):f_ Vh 85 #[p_ B,.int .u32 a,n.v] w fun ee w'=>ee=.returned (.tuple #[])/\Mx w0 P w' B (m.aK0 a n):=
 (VI h n (· =m.keep a (n.more m.now)) (· =m.aK0 a n) (fun u hu=>(Z6 hu hr _).mono fun _ _ ⟨e,q,t⟩=>⟨e,_,⟨rfl,rfl⟩,q,t⟩) (fun _ u e hu=>by subst e;exact(aE1 hu ho.addr a hr.1).mono fun _ _ ⟨e,q⟩=>⟨e,_,rfl,q⟩)).mono fun _ _ ⟨e,_,r,q⟩=>⟨e,r▸q⟩
theorem YO(h:Mx w0 P w B m)(n:Nat):f_ Vh 47 #[p_ B] (w.drewN n) fun e w'=>e=.returned (.int .u32 m.addr)/\w'=w.drewN n:=lL (h.like (w':=w.drewN n) ⟨rfl,rfl,rfl,rfl⟩)
def Mc.hop(m:Mc)(t:Int):Int:=if(bits BinOp.and .u32 t m.mask==bits BinOp.and .u32 m.addr m.mask||m.yz==0)=true then t else m.yz
theorem aL2{t:Int}(h:bits BinOp.and .u32 t m.mask=bits BinOp.and .u32 m.addr m.mask):t=m.hop t:=by unfold Mc.hop;rw[aU0 (by simp[h])]
theorem aM8{t:Int}(h:(bits BinOp.and .u32 t m.mask==bits BinOp.and .u32 m.addr m.mask)=true∨(m.yz==0)=true):t=m.hop t:=by unfold Mc.hop;rw[aU0 (by rcases h with h|h<;>simp[h])]
theorem aK9{t:Int}(h:(bits BinOp.and .u32 t m.mask==bits BinOp.and .u32 m.addr m.mask)=false/\(m.yz==0)=false):m.yz=m.hop t:=by unfold Mc.hop;rw[aT4 (by simp[h.1,h.2])]
theorem ap8(h:Mx w0 P w B m)(t:Int):f_ Vh 182 #[p_ B,.int .u32 t] w fun ee w'=>ee=.returned (.int .u32 (m.hop t))/\gm w.heap.size w w':=by
 have c32:=h.c32;have qd:=h.qd;have c34:=h.c34;have Qu:=h.Qu;have Qw:=h.Qw;have c37:=h.c37;have Qx:=h.Qx;have hlt:=h.lt;have hB:B≠w.heap.size:=aU4 hlt;have HA:=M0 (YO (h.alloc (.cells (rB m.mask m.yz m.FJ m.ends m.old m.iZ m.over) 109)));clear h;go_enter func182,ntmps182;go_wp2;go_quiet (first|(go_at_call 47;exact bd2 (HA _)));clear c32 qd c34 Qu Qw c37 Qx HA;go_wp2
 ·go_ret
  rename_i e
  refine⟨?_,below_drewN b1_ _⟩;show Ending.returned (Value.int .u32 t)=_;rw[<-aL2 e]
 ·go_ret
  rename_i e
  refine⟨?_,below_drewN b1_ _⟩;show Ending.returned (Value.int .u32 t)=_;rw[<-aM8 e]
 go_ret;rename_i e
 refine⟨?_,below_drewN b1_ _⟩;show Ending.returned (Value.int .u32 m.yz)=_;rw[<-aK9 e]
theorem af8(n:Nb)(w:fV):f_ Vh 170 #[n.v] w fun ee w'=>ee=.returned (.bool (n.asks==0))/\gm w.heap.size w w':=by
 unfold Nb.v;go_enter func170,ntmps170;go_wp2;go_ret;exact⟨rfl,(aS8 _ _).alloc (aS5 _) _⟩
def Mc.al7(m:Mc)(ta f t:Int)(load:ByteArray):Mc:=m.Ww.aK0 (m.hop ta) {bC with load:=m.lD ta f t load}
def Mc.Y6(m:Mc)(ta f t:Int)(load:ByteArray)(x:Nb):Mc:=m.Ww.send [x.k0,x.k1,x.k2,x.k3,x.k4,x.k5] 2048 (m.lD ta f t load)
theorem ar9(h:Mx w0 P w B m)(ho:m.Ok)(ta f t:Int)(load:ByteArray)(hta:0<=ta/\ta<=4294967295)(hF:0<=f/\f<=65535)(hT:0<=t/\t<=65535)(hl:load.size<=262144)(hr:Room m.cd (m.hop ta))(hn:Maps.has m.cd (.int .u32 (m.hop ta))=false):
  f_ Vh 143 #[p_ B,.int .u32 ta,.agg (rI f t load)] w fun ee w'=>ee=.returned (.tuple #[])/\Mx w0 P w' B (m.al7 ta f t load):=by
 have HM:=M0 h;have HP:Hid (∀u,Mx w0 P u B m->f_ Vh 181 #[p_ B,.int .u32 ta,.agg (rI f t load)] u fun ee w'=>ee=.returned (.string (m.lD ta f t load))/\Mx w0 P w' B m.Ww):=M0 (fun u hu=>GU hu ho ta f t load hta hF hT hl);have HH:Hid (∀u,Mx w0 P u B m.Ww->f_ Vh 182 #[p_ B,.int .u32 ta] u fun ee w'=>ee=.returned (.int .u32 (m.hop ta))/\gm u.heap.size u w'):=M0 (fun u hu=>ap8 hu ta);obtain⟨x,hx⟩:=hr.2.1;have HL:Hid (∀u,Mx w0 P u B m.Ww->(Instr.lookup 102 (.map (some m.bm)) (.int .u32 (m.hop ta)) true).run Vh u=.ok (.tuple #[.agg (rF x.asks x.k0.toNat x.k1.toNat x.k2.toNat x.k3.toNat x.k4.toNat x.k5.toNat x.till x.load),.bool false]) u):=M0 (fun u hu=>by have r:=YE (D:=m.cd) hu.map _ hr.1 x hx;rw[hn]at r;exact r);have HS:Hid (∀u,Mx w0 P u B m.Ww->f_ Vh 85 #[p_ B,.int .u32 (m.hop ta),.agg (rF 0 0 0 0 0 0 0 0 (m.lD ta f t load))] u fun ee w'=>ee=.returned (.tuple #[])/\Mx w0 P w' B (m.al7 ta f t load)):=M0 (fun u hu=>ay5 hu ho.Ww hr {bC with load:=m.lD ta f t load});obtain⟨pk,hpk⟩:=ex_ (m.lD ta f t load);obtain⟨hp,hhp⟩:=ex_ (m.hop ta);rw[<-hpk]at HP HS;rw[<-hhp]at HH HL HS;clear h ho hr hn hx hpk hhp hta hF hT hl;go_enter func143,ntmps143;go_wp2_with fail;refine on_ (HP _ (HM.alloc _)) fun u h1=>?_;have H1:=M0 h1;clear h1 HP HM;go_wp2_with fail;refine on_ (HH _ H1) fun u2 hb2=>?_;have H2:=M0 (H1.below hb2);have c0:u2.cell? (a_ B 0)=some (.map (some m.bm)):=H2.c0;have hlt:=H2.lt;have hB:B≠u2.heap.size:=aU4 hlt;have hL:=HL _ H2;clear hb2 H1 HH HL;go_wp2_with fail;refine on_ (HS _ ((H2.alloc _))) fun u4 h4=>?_;have H4:=M0 h4;clear h4;go_wp2;go_end0;exact⟨rfl,H4⟩
theorem ai9(h:Mx w0 P w B m)(ho:m.Ok)(ta f t:Int)(load:ByteArray)(hta:0<=ta/\ta<=4294967295)(hF:0<=f/\f<=65535)(hT:0<=t/\t<=65535)(hl:load.size<=262144)(x:Nb)(hr:0<=m.hop ta/\m.hop ta<=4294967295)(hx:m.cd.atKey (.int .u32 (m.hop ta)) bC.d=x.d)(hn:Maps.has m.cd (.int .u32 (m.hop ta))=true)(hk:x.asks=0):
  f_ Vh 143 #[p_ B,.int .u32 ta,.agg (rI f t load)] w fun ee w'=>ee=.returned (.tuple #[])/\Mx w0 P w' B (m.Y6 ta f t load x):=by
 have HM:=M0 h;have HP:Hid (∀u,Mx w0 P u B m->f_ Vh 181 #[p_ B,.int .u32 ta,.agg (rI f t load)] u fun ee w'=>ee=.returned (.string (m.lD ta f t load))/\Mx w0 P w' B m.Ww):=M0 (fun u hu=>GU hu ho ta f t load hta hF hT hl);have HH:Hid (∀u,Mx w0 P u B m.Ww->f_ Vh 182 #[p_ B,.int .u32 ta] u fun ee w'=>ee=.returned (.int .u32 (m.hop ta))/\gm u.heap.size u w'):=M0 (fun u hu=>ap8 hu ta);have HL:Hid (∀u,Mx w0 P u B m.Ww->(Instr.lookup 102 (.map (some m.bm)) (.int .u32 (m.hop ta)) true).run Vh u=.ok (.tuple #[.agg (rF x.asks x.k0.toNat x.k1.toNat x.k2.toNat x.k3.toNat x.k4.toNat x.k5.toNat x.till x.load),.bool true]) u):=M0 (fun u hu=>by have r:=YE (D:=m.cd) hu.map _ hr x hx;rw[hn]at r;exact r);have HS:Hid (∀u,Mx w0 P u B m.Ww->f_ Vh 174 #[p_ B,.agg (rT x.k0.toNat x.k1.toNat x.k2.toNat x.k3.toNat x.k4.toNat x.k5.toNat),.int .u16 2048,.string (m.lD ta f t load)] u fun ee w'=>ee=.returned (.tuple #[])/\Mx w0 P w' B (m.Y6 ta f t load x)):=M0 (fun u hu=>sP hu x.k0 x.k1 x.k2 x.k3 x.k4 x.k5 2048 _ (by decide) (by decide) (aT9 (vC _ _ _ _ _) (by decide)));have HY:=M0 (af8 x);rw[show(x.asks==0)=true from by rw[hk];rfl]at HY;unfold Nb.v at HY;obtain⟨pk,hpk⟩:=ex_ (m.lD ta f t load);obtain⟨hp,hhp⟩:=ex_ (m.hop ta);rw[<-hpk]at HP HS;rw[<-hhp]at HH HL;clear h ho hr hn hx hpk hhp hta hF hT hl hk;go_enter func143,ntmps143;go_wp2_with fail;refine on_ (HP _ (HM.alloc _)) fun u h1=>?_;have H1:=M0 h1;clear h1 HP HM;go_wp2_with fail;refine on_ (HH _ H1) fun u2 hb2=>?_;have H2:=M0 (H1.below hb2);have c0:u2.cell? (a_ B 0)=some (.map (some m.bm)):=H2.c0;have hlt:=H2.lt;have hB:B≠u2.heap.size:=aU4 hlt;have hL:=HL _ H2;clear hb2 H1 HH HL;go_wp2_with fail;refine on_ (HY _) fun u3 hb3=>?_;have hc:=WM.iF hb3;have H3:=M0 ((H2.alloc _).below hb3);clear hb3 HY c0 hL;go_wp2_with fail;refine on_ (HS _ H3) fun u4 h4=>?_;have H4:=M0 h4;clear h4;go_wp2;go_end0;exact⟨rfl,H4⟩
end Js
namespace Js
open Bs
variable{w0:fV} {P:Nat→Prop} {w w':fV} {B Q:Nat} {m m':Mc}
structure Bx (w0:fV) (P:Nat->Prop) (w:fV) (Q B:Nat) (m:Mc):Prop where
 mx:Mx w0 P w B m
 row:w.heap[Q]?=some (.cells #[p_ B] 78 (0,0))
theorem Bx.lt(h:Bx w0 P w Q B m):Q<w.heap.size:=aT3 h.row
theorem Bx.no(h:Bx w0 P w Q B m): ¬iq B m Q:=by
 intro hf;have hr:=h.row
 rcases hf with rfl|rfl|rfl|rfl|hk
 ·have h1:=h.mx.row
  rw[hr]at h1;simp only[aV7,aW2]at h1;exact absurd h1.2.1 (by decide)
 ·obtain⟨es,c,h1,_⟩:=h.mx.map
  rw[hr]at h1;simp at h1
 ·obtain⟨a,b,c,d,arr,h1,_⟩:=h.mx.came
  rw[hr]at h1;simp only[aV7,aW2]at h1;exact absurd h1.2.1 (by decide)
 ·obtain⟨a,b,c,d,arr,h1,_⟩:=h.mx.goes
  rw[hr]at h1;simp only[aV7,aW2]at h1;exact absurd h1.2.1 (by decide)
 rcases h.mx.image.2 with⟨h1,_⟩|⟨g,cap,cur,e1,e2,e3,e4⟩
 ·rw[h1]at hk;cases hk
 rw[e1]at hk;have:g=Q:=aU2 hk;subst this;rw[hr]at e3;simp only[aV7,aW2]at e3;exact absurd e3.2.1 (by decide)
theorem Bx.next(h:Bx w0 P w Q B m)(k:Mx w (iq B m) w' B m'):Bx w0 P w' Q B m':=
 ⟨h.mx.join k,(k.kept Q h.lt h.no).trans h.row⟩
theorem Bx.below(h:Bx w0 P w Q B m)(hb:gm w.heap.size w w'):Bx w0 P w' Q B m:=⟨h.mx.below hb,(hb.block Q h.lt).trans h.row⟩
theorem Bx.alloc(h:Bx w0 P w Q B m)(o:Obj):Bx w0 P (w.alloc o) Q B m:=h.below ((aS8 _ _).alloc (aS5 _) o)
theorem Bx.base(h:Bx w0 P w Q B m):Bx w (iq B m) w Q B m:=⟨h.mx.base,h.row⟩
theorem Bx.stay(h:Bx w (iq B m) w' Q B m'){k:Nat}{o:Obj}(hk:w.heap[k]?=some o)(hf: ¬iq B m k):w'.heap[k]?=some o:=(h.mx.kept k (aT3 hk) hf).trans hk
theorem kP(h:Bx w0 P w Q B m):f_ Vh 27 #[p_ Q] w fun e w'=>e=.returned (p_ B)/\w'=w:=by
 have c0:=aT8 h.row;clear h;go_enter func27,ntmps27;go_wp2;go_ret;exact⟨rfl,rfl⟩
theorem Az(h:Mx w0 P w B m):f_ Vh 55 #[p_ B] w fun ee w'=>ee=.returned (.tuple #[.string (kW m.gq),.bool (!m.gq.isEmpty)])/\Mx w0 P w' B m.kw:=by
 have HN:=M0 (an3 h);clear h;go_enter func55,ntmps55;go_wp2_with fail;refine on_ HN fun u hu=>?_;have HU:=M0 hu;clear hu HN;go_wp2;go_ret2;exact⟨rfl,HU⟩
theorem vU(h:Bx w0 P w Q B m):f_ Vh 32 #[p_ Q] w fun ee w'=>ee=.returned (.tuple #[.string (kW m.gq),.bool (!m.gq.isEmpty)])/\Bx w0 P w' Q B m.kw:=by
 have HM:=M0 (kP h);have HT:=M0 (Az h.mx.base);have HB:=M0 h;clear h;go_enter func32,ntmps32;go_wp2_with fail;refine HM.mono ?_;rintro ee u ⟨rfl,rfl⟩;go_wp2_with fail;refine on_ HT fun u hu=>?_;have HU:=M0 (HB.next hu);clear hu HT HM HB;go_wp2;go_ret2;exact⟨rfl,HU⟩
def Mc.cached(m:Mc):Nat:=Maps.size m.cd
theorem AZ(h:Mx w0 P w B m):f_ Vh 28 #[p_ B] w fun ee w'=>ee=.returned (.agg (rN m.now m.st m.phase m.addr m.boots m.ql.length m.lost m.cached))/\gm w.heap.size w w':=by
 have c14:=h.c14;have nk:=h.nk;have c40:=h.c40;have c24:=h.c24;have RX:=h.RX;have kF:=h.kF;have c0:=h.c0;obtain⟨ia,ic,hi⟩:=Dh.ib h.image;rw[hi]at RX;obtain⟨es,clk,hmp,hfit,hle,hD⟩:=h.map;have hsz:Maps.size m.cd=es.size:=by rw[hD];exact length_read es
 have hlen:∀(u:fV) (ty:TypeId),u.heap[m.bm]?=some (.map es clk)->(Builtin.len_ #[102] ty #[.map (some m.bm)]).run Vh u=.ok (.int .i64 es.size) u:=fun u ty hu=>by
  simp[Builtin.len_,bd8 bf9,MapKept.run_getObj_map hu];rfl
 have hbm:=aT3 hmp;have hne:B≠w.heap.size:=aU4 h.lt;have hset:∀(u:fV) (j:Nat) (v:Value),(u.setCell (a_ w.heap.size j) v).heap[m.bm]?=u.heap[m.bm]?:=fun u j v=>aS7 _ _ _ _ (by show m.bm≠w.heap.size;omega);have hal:(w.alloc (.cells zN_ 48)).heap[m.bm]?=some (.map es clk):=(aT1 _ _ _ hbm).trans hmp;have HA:=M0 (lL (h.alloc (.cells zN_ 48)).drew);have hlt:=h.lt;clear h;go_enter func28,ntmps28;go_wp2;have hal2:∀o:Obj,(w.alloc o).drew.heap[m.bm]?=some (.map es clk):=fun o=>(aT1 _ _ _ hbm).trans hmp;clear hset hal;go_region_held3 (fun u=>u.cell? (a_ B 14)=some (.int .i64 m.now)/\u.cell? (a_ B 25)=some (.int .i64 m.st)/\u.cell? (a_ B 40)=some (.int .i64 m.phase)/\u.cell? (a_ B 24)=some (.int .i64 m.boots)/\u.cell? (a_ B 52)=some (.slice ia m.ql.length ic)/\u.cell? (a_ B 22)=some (.int .i64 m.lost)/\u.cell? (a_ B 0)=some (.map (some m.bm))/\u.heap[m.bm]?=some (.map es clk)) (go_keep)
  (first|(go_at_call 47;refine HA.mono ?_;rintro ee u ⟨rfl,rfl⟩))
 go_wp2;go_returns
 refine⟨?_,b1_.drew⟩;unfold Mc.cached;rw[hsz]
theorem DC(h:Bx w0 P w Q B m):f_ Vh 14 #[p_ Q] w fun ee w'=>ee=.returned (.agg (rN m.now m.st m.phase m.addr m.boots m.ql.length m.lost m.cached))/\gm w.heap.size w w':=by
 have HB:=M0 (h.alloc (.cells zN_ 48));have HM:=M0 (kP HB);have HL:=M0 (AZ HB.mx);clear h HB;generalize m.cached=cc at*;generalize m.addr=aa at*;go_enter func14,ntmps14;go_wp2_with fail;refine HM.mono ?_;rintro ee u ⟨rfl,rfl⟩;go_wp2_with fail;refine on_ HL fun u hb=>?_;have hrow:u.heap[w.heap.size]?=some (.cells zN_ 48 (0,0)):=(hb.block _ (by simp)).trans (aS6 w _);have fz:∀j,u.frozen? (a_ w.heap.size j)=false:=fun j=>by simp[World.frozen?,hrow]
 have ec:∀j,u.cell? (a_ w.heap.size j)=(zN_:Array Value)[j]?:=fun j=>aS3 u _ j _ _ _ hrow;have e0:=ec 0;have e1:=ec 1;have e2:=ec 2;have e3:=ec 3;have e4:=ec 4;have e5:=ec 5;have e6:=ec 6;have e7:=ec 7;simp only[aX2,List.getElem?_cons_succ,aY5]at e0 e1 e2 e3 e4 e5 e6 e7;obtain⟨l,hl⟩:∃l:List (Nat×Value),l=[(0,.int .i64 m.now),(1,.int .i64 m.st),(2,.int .i64 m.phase),(3,.int .u32 aa),(4,.int .i64 m.boots),(5,.int .i64 m.ql.length),(6,.int .i64 m.lost),(7,.int .i64 cc)]:=⟨_,rfl⟩;have hr2:=wU w.heap.size l u _ hrow;have hcs:Jn zN_ l=(rN m.now m.st m.phase aa m.boots m.ql.length m.lost cc):=by rw[hl];kernel_rfl
 rw[hcs]at hr2;have HW:Hid (gm w.heap.size w (setMany u w.heap.size l)):=M0 (by
  have q:=((aS8 w.heap.size w).alloc (aS5 _) (.cells zN_ 48)).trans (hb.mono (by simp))
  obtain⟨o1,o2,o3⟩:=CX w.heap.size l u
  exact⟨o1.trans q.os,o2.trans q.tape,o3.trans q.output,by rw[xn];exact q.size,fun k hk=>(vG _ k (by omega) l u).trans (q.block k hk)⟩)
 obtain⟨U,hU⟩:=ex_ (setMany u w.heap.size l);have r:=fun j=>aS3 _ _ j _ _ _ hr2;rw[<-hU]at HW hr2;rw[<-hU]at r;have r0:=r 0;have r1:=r 1;have r2:=r 2;have r3:=r 3;have r4:=r 4;have r5:=r 5;have r6:=r 6;have r7:=r 7;simp only[aX2,List.getElem?_cons_succ,aY5]at r0 r1 r2 r3 r4 r5 r6 r7;rw[hl]at hU;simp only[setMany]at hU;have HU:=M0 hU;clear hb HM HL hrow ec hr2 hcs r hU hl;go_wp2;rw[<-gB HU];refine aU6 (v:=.agg (rN m.now m.st m.phase aa m.boots m.ql.length m.lost cc)) (by simp[results,results14,go_sem,r0,r1,r2,r3,r4,r5,r6,r7]) rfl ?_;exact⟨rfl,HW⟩
theorem TZ:(prog.info? 9).map (fun i=>(i.zero,i.size,i.bytes))=some (some (.string ⟨#[]⟩),1,16):=by kernel_rfl
def Mc.takeN(m:Mc)(k:Nat):Mc:={m with gf:=(m.gf+k)%m.tx,gq:=m.gq.drop k}
def Mc.taken(m:Mc):Mc:=m.takeN m.gq.length
theorem QO(m:Mc)(h:m.gf<m.tx):m.takeN 0=m:=by
 unfold Mc.takeN;rw[bi6,bg9 h,List.drop_zero]
theorem Rz(m:Mc)(k:Nat)(hk:k<m.gq.length):(m.takeN k).kw=m.takeN (k+1):=by
 unfold Mc.kw Mc.takeN;simp only;rw[aW6 hk];simp only;rw[Nat.mod_add_mod];rfl
def strs(q:List ByteArray):List Value:=q.map Value.string
theorem Q_(m:Mc)(k j:Nat):iq B (m.takeN k) j↔iq B m j:=Iff.rfl
theorem Z4(h:Bx w0 P w Q B m):f_ Vh 18 #[p_ Q] w fun ee w'=>∃ao cp,ee=.returned (.slice ao m.gq.length cp)/\w'.ownsRow w.heap.size 9 1 (.slice ao m.gq.length cp) m.gq.length (strs m.gq)/\Bx w0 P w' Q B m.taken:=by
 obtain⟨i0,hi,hz0,hz1,hz2⟩:=aX3 TZ;have hlen:m.gq.length<=16:=aT9 h.mx.goes.2.2.2.1 h.mx.goes.2.1;have hw0:=h.mx.size;have hQ:=h.lt;have HFT:Hid (∀k,iq B m k->k<w.heap.size):=M0 (fun k hk=>h.mx.ik hk);have HZ:Hid (Bx w0 P w Q B (m.takeN 0)):=M0 (by rw[QO m h.mx.goes.2.2.1];exact h);clear h;go_enter func18,ntmps18;go_wp2;go_loopw [3,6] (fun v i wr=>∃k:Nat,k<=m.gq.length/\i=.int .i64 k/\∃ao cp,v=.slice ao k cp/\Hid (wr.ownsRow w.heap.size 9 1 (.slice ao k cp) k (strs (m.gq.take k)))/\Hid (Bx w0 P wr Q B (m.takeN k))/\w.heap.size<=wr.heap.size) (fun _ i _=>17-(intOf i).toNat)
 case atStart=>exact⟨0,aV3 _,rfl,none,0,rfl,M0 (aV8 _ _ _ _),HZ,aS5 _⟩
 obtain⟨k,hk,rfl,ao,cp,rfl,HO,HB,hws⟩:=hrel;rename fV=>wr;have hlt:(k:Int)<17:=by omega
 have HT:=M0 (vU HB.base)
 by_cases hkl:k<m.gq.length
 ·obtain⟨s,hs⟩:∃s,m.gq[k]=s:=⟨_,rfl⟩
  have hhead:kW (m.takeN k).gq=s:=by
   show kW (m.gq.drop k)=s;rw[aW6 hkl,hs];rfl
  have hne:(!(m.takeN k).gq.isEmpty)=true:=by
   show(!(m.gq.drop k).isEmpty)=true;rw[aW6 hkl];rfl
  rw[hhead,hne,Rz m k hkl]at HT;have HTK:Hid (strs (m.gq.take (k+1))=strs (m.gq.take k)++ [.string s]):=M0 (by
   rw[aT5 hkl,hs];simp[strs])
  clear hhead hne hs;go_wp2_with fail;refine on_ HT fun u hu=>?_;have HO2:Hid (u.ownsRow w.heap.size 9 1 (.slice ao k cp) k (strs (m.gq.take k))):=M0 (iN HO (fun j hj=>hu.mx.kept j (HO.lt j hj).2 (fun hf=>by
   have h1:=HFT j ((Q_ m k j).1 hf)
   have h2:=(HO.lt j hj).1
   omega)))
  have hwu:=hu.mx.size;have HU:=M0 (HB.next hu.mx);clear hu HT HO HB;go_wp2_with (at_builtin;refine aW4 _ rfl (.tmp 15) (.tmp 17) 44 rfl w.heap.size 9 i0 (.string ⟨#[]⟩) 1 16 bf5 hi hz0 hz1 hz2 rfl (by decide) _ _ _ rfl (HO2.alloc _) (a_ u.heap.size 0) 1 1 [.string s] rfl rfl (cell_one_new _ _ _) ?one ?h63 ?hby ?hba ?_)
  case one=>intro x hx;simp at hx;subst hx;rfl
  case h63=>unfold maxLen;omega
  case hby=>omega
  case hba=>simp;omega
  intro v2 u2 ho2 hg2 _;have HO3:Hid (u2.ownsRow w.heap.size 9 1 v2 (k+1) (strs (m.gq.take (k+1)))):=M0 (by rw[gB HTK];exact ho2);have HU2:Hid (Bx w0 P u2 Q B (m.takeN (k+1))):=M0 (by
   have q:=HU.alloc (.cells #[.string s] 9)
   have hnr:∀j,some j=(Value.slice ao k cp).ownBlock->w.heap.size<=j:=fun j hj=>(HO2.lt j hj.symm).1
   refine⟨q.mx.turn hg2.os hg2.tape hg2.output hg2.size (fun j hj hc=>hg2.block j hj (fun e=> ?_)),?_⟩
   ·have h2:=hnr j e
    rcases hc with hc|⟨hc1,hc2⟩
    ·have h1:=HFT j ((Q_ m (k+1) j).1 hc);omega
    omega
   have hq:=q.row
   rw[<-hq]
   exact hg2.block Q (aT3 hq) (fun e=>by have h2:=hnr Q e;omega))
  have hz2:=hg2.size;simp at hz2;obtain⟨a2,c2,hv2⟩:=Dh.ib HO3;subst hv2;clear ho2 hg2 HO2 HU HTK;go_wp2;go_roundw
  case rel=>exact⟨k+1,by omega,by go_num,a2,c2,rfl,HO3,HU2,by omega⟩
  simp[intOf];omega
 have e:k=m.gq.length:=by omega
 have hhead:kW (m.takeN k).gq=⟨#[]⟩:=by
  show kW (m.gq.drop k)=_;rw[aW8 (by omega)];rfl
 have hne:(!(m.takeN k).gq.isEmpty)=false:=by
  show(!(m.gq.drop k).isEmpty)=false;rw[aW8 (by omega)];rfl
 have hg1:(m.takeN k).kw=m.takeN k:=by
  unfold Mc.kw;have:(m.takeN k).gq=[]:=by show m.gq.drop k=[];exact aW8 (by omega)
  rw[this]
 rw[hhead,hne,hg1]at HT;have HEQ:=M0 e;clear hhead hne hg1 e;go_wp2_with fail;refine on_ HT fun u hu=>?_;have HO2:Hid (u.ownsRow w.heap.size 9 1 (.slice ao k cp) k (strs (m.gq.take k))):=M0 (iN HO (fun j hj=>hu.mx.kept j (HO.lt j hj).2 (fun hf=>by
  have h1:=HFT j ((Q_ m k j).1 hf)
  have h2:=(HO.lt j hj).1
  omega)))
 have HU:=M0 (HB.next hu.mx);clear hu HT HO HB;go_wp2;go_ret;refine⟨ao,cp,?_,?_,?_⟩
 ·rw[<-gB HEQ];rfl
 ·have q:=gB HO2
  rw[gB HEQ,aV9]at q;exact q
 unfold Mc.taken;rw[<-gB HEQ];exact HU
def Mc.put(m:Mc)(s:ByteArray):Mc:=if m.cq.length<m.rx then {m with cq:=m.cq++ [s]}else m
theorem OV(h:Mx w0 P w B m)(s:ByteArray)(hs:s.size<=140737488355328):f_ Vh 30 #[p_ B,.string s] w fun ee w'=>ee=.returned (.bool (decide (m.cq.length<m.rx)))/\Mx w0 P w' B (m.put s):=by
 have HM:=M0 h;have HC:=fun u=>M0 (Rd.uD s u hs);clear h hs;go_enter func30,ntmps30;go_wp2;go_region_held3 (fun u=>True) (trivial)
  (first|(go_at_call 45;refine(gB (HC _)).mono ?_;rintro ee u ⟨rfl,hb⟩;have HU:=M0 (HM.drew.below hb))|(go_at_call 52;refine(Ko HU _).mono ?_;rintro ee u2 ⟨rfl,hu2⟩;have HU2:=M0 hu2))
 clear hu2 hb;go_wp2;go_ret;exact⟨rfl,HU2⟩
theorem yw(h:Bx w0 P w Q B m)(s:ByteArray)(hs:s.size<=140737488355328):f_ Vh 16 #[p_ Q,.string s] w fun ee w'=>ee=.returned (.bool (decide (m.cq.length<m.rx)))/\Bx w0 P w' Q B (m.put s):=by
 have HM:=M0 (kP h);have HT:=M0 (OV h.mx.base s hs);have HB:=M0 h;clear h;go_enter func16,ntmps16;go_wp2_with fail;refine HM.mono ?_;rintro ee u ⟨rfl,rfl⟩;go_wp2_with fail;refine on_ HT fun u hu=>?_;have HU:=M0 (HB.next hu);clear hu HT HM HB;go_wp2;go_ret;exact⟨rfl,HU⟩
theorem ax7(h:Mx w0 P w B m)(s:ByteArray)(hq:m.cq=[s])(hend:m.ended=false)(Z:Mc->Prop)(hZ:∀mz,Z mz->mz.cq=[])
  (HF:∀u,Mx w0 P u B m.jP->f_ Vh 54 #[p_ B,.string s] u fun ee w'=>ee=.returned (.tuple #[])/\∃mz,Z mz/\Mx w0 P w' B mz):
  f_ Vh 31 #[p_ B,.int .i64 2] w fun ee w'=>ee=.returned (.int .i64 1)/\∃mz,Z mz/\Mx w0 P w' B mz:=by
 have HM:=M0 h;have HFF:=M0 HF;have HZZ:=M0 hZ;have HN:=M0 (AU h);have hhead:kW m.cq=s:=by rw[hq];rfl
 have hne:(!m.cq.isEmpty)=true:=by rw[hq];rfl
 have hen1:m.jP.ended=false:=by
  have:m.jP.ended=m.ended:=by unfold Mc.jP;rw[hq];rfl
  rw[this];exact hend
 rw[hhead,hne]at HN;have HEN:=M0 hen1;clear h HF hZ hhead hne hen1 hend hq;go_enter func31,ntmps31;go_wp2;refine aX5 3 ?_;rw[aU9];go_wp2_with fail;refine on_ HN fun u hu=>?_;have HU:=M0 hu;clear hu HN HM;have HE:=M0 (t_ HU);rw[gB HEN]at HE;go_wp2_with fail;refine HE.mono ?_;rintro ee u2 ⟨rfl,rfl⟩;go_wp2_with fail;refine on_ (HFF _ HU) ?_;rintro u3 ⟨mz,hz,hu3⟩;have HZ3:=M0 hz;have HU3:=M0 hu3;have hcq:=HZZ mz hz;have HN3:=M0 (AU hu3);have hhead:kW mz.cq=⟨#[]⟩:=by rw[hcq];rfl
 have hne:(!mz.cq.isEmpty)=false:=by rw[hcq];rfl
 have hg1:mz.jP=mz:=by unfold Mc.jP;rw[hcq]
 rw[hhead,hne,hg1]at HN3;clear hz hu3 hhead hne hg1 hcq HE HU HFF HZZ;go_wp2;rw[aU9];go_wp2_with fail;refine on_ HN3 fun u4 hu4=>?_;have HU4:=M0 hu4;clear hu4 HN3;go_wp2;go_ret;exact⟨rfl,mz,HZ3,HU4⟩
theorem ae6(h:Bx w0 P w Q B m)(Z:Mc->Prop)
  (HT:f_ Vh 31 #[p_ B,.int .i64 2] w fun ee w'=>ee=.returned (.int .i64 1)/\∃mz,Z mz/\Mx w (iq B m) w' B mz):
  f_ Vh 17 #[p_ Q,.int .i64 2] w fun ee w'=>ee=.returned (.int .i64 1)/\∃mz,Z mz/\Bx w0 P w' Q B mz:=by
 have HM:=M0 (kP h);have HTT:=M0 HT;have HB:=M0 h;clear h HT;go_enter func17,ntmps17;go_wp2_with fail;refine HM.mono ?_;rintro ee u ⟨rfl,rfl⟩;go_wp2_with fail;refine on_ HTT ?_;rintro u ⟨mz,hz,hu⟩;have HZ:=M0 hz;have HU:=M0 (HB.next hu);clear hu HTT HM HB hz;go_wp2;go_ret;exact⟨rfl,mz,HZ,HU⟩
theorem ad5(h:Bx w0 P w Q B m)(d:Int)(Z:Mc->Prop)
  (HT:f_ Vh 29 #[p_ B,.int .u32 d] w fun ee w'=>ee=.returned (.tuple #[])/\∃mz,Z mz/\Mx w (iq B m) w' B mz):
  f_ Vh 15 #[p_ Q,.int .u32 d] w fun ee w'=>ee=.returned (.tuple #[])/\∃mz,Z mz/\Bx w0 P w' Q B mz:=by
 have HM:=M0 (kP h);have HTT:=M0 HT;have HB:=M0 h;clear h HT;go_enter func15,ntmps15;go_wp2_with fail;refine HM.mono ?_;rintro ee u ⟨rfl,rfl⟩;go_wp2_with fail;refine on_ HTT ?_;rintro u ⟨mz,hz,hu⟩;have HZ:=M0 hz;have HU:=M0 (HB.next hu);clear hu HTT HM HB hz;go_wp2;go_end0;exact⟨rfl,mz,HZ,HU⟩
end Js
namespace Js
open Bs
variable{w0:fV} {P:Nat→Prop} {w w':fV} {B:Nat} {m m':Mc}
def Cd(Q:Nb->Prop)(D:DataW Unit):Prop:=∀a:Int,Maps.has D (.int .u32 a)=true->∃n:Nb,D.atKey (.int .u32 a) bC.d=n.d/\Q n
theorem Cd.nil(Q:Nb->Prop):Cd Q (.map []):=by
 intro a h
 cases h
theorem Cd.look{Q:Nb->Prop}{D:DataW Unit}(h:Cd Q D)(a:Int):∃n:Nb,D.atKey (.int .u32 a) bC.d=n.d/\(Maps.has D (.int .u32 a)=true->Q n):=by
 cases hh:Maps.has D (.int .u32 a)with
 |true=>
  obtain⟨n,h1,h2⟩:=h a hh;exact⟨n,h1,fun _=>h2⟩
 |false=>exact⟨bC,Maps.atKey_of_not_has hh _,fun e=>by cases e⟩
theorem Cd.del{Q:Nb->Prop}{D:DataW Unit}(h:Cd Q D)(k:Lit):Cd Q (D.del k):=by
 intro a ha
 by_cases e:(Lit.int .u32 a)=k
 ·subst e
  rw[Maps.has_del_same]at ha
  cases ha
 rw[Maps.has_del_other e]at ha;obtain⟨n,h1,h2⟩:=h a ha;exact⟨n,by rw[Maps.atKey_del_other e];exact h1,h2⟩
theorem Cd.put{Q:Nb->Prop}{D:DataW Unit}(h:Cd Q D)(hD:Maps.IsMap D)(a:Int)(n:Nb)(hn:Q n):Cd Q (D.put (.int .u32 a) n.d):=by
 intro x hx
 by_cases e:(Lit.int .u32 x)=.int .u32 a
 ·rw[e]
  exact⟨n,Maps.atKey_put_same hD (show WideAt.IsKeyLit (.int .u32 a)from trivial) _ _,hn⟩
 rw[Maps.has_put_other e]at hx;obtain⟨y,h1,h2⟩:=h x hx;exact⟨y,by rw[Maps.atKey_put_other e];exact h1,h2⟩
theorem bO{bm n:Nat}{D:DataW Unit}(h:w.ownsMap Vh 36 Qz bm n D)(a:Int)(ha:0<=a/\a<=4294967295)(x:Nb)(hx:D.atKey (.int .u32 a) bC.d=x.d):
  (Instr.lookup 102 (.map (some bm)) (.int .u32 a) false).run Vh w=.ok x.v w:=by
 obtain⟨v,ps,h1,h2⟩:=h.lookup (ai ah) bf9 (VM w) (zd:=bC.d) (zp:=[]) rfl (aG2 a ha);rw[hx]at h2;rw[h1,aF5 h2]
theorem Vu{x:Int}(h:(Lit.int .u32 x).wf=true):0<=x/\x<=4294967295:=by
 simp only[Lit.wf,aZ7,be8]at h;exact⟨h.1,h.2⟩
section
variable{ops:Array Oper} {rest:List Oper} {o:Oper} {a:Act} {R:Exit→Act→fV→Prop}
theorem aN{Q:Nb->Prop}(hg:o.guard=none)(it:Operand)(hop:o.op=Op.next it false)(b r n:Nat)(D:DataW Unit)(left:Lit->Bool)(cnt:Nat)
  (hC:Cd Q D) (hit:a.eval it=(p_ r)) (h:w.ranges Vh 36 Qz b r n D left cnt)
  (hDone:cnt=0->(∀kl,left kl=false)->wpList Vh ops R rest (a.put o.dst (.tuple #[.bool false])) w)
  (hMore:∀(x:Int) (c:Nb) (w':fV) (cnt':Nat),0<=x/\x<=4294967295->left (.int .u32 x)=true->Maps.has D (.int .u32 x)=true->Q c->D.atKey (.int .u32 x) bC.d=c.d->
    w'.ranges Vh 36 Qz b r n D (fun z=>left z && !z.sameKey (.int .u32 x)) cnt'->cnt'<cnt->w.grownBy w' (some r)->w'.heap.size=w.heap.size->
    (Instr.entry (p_ r)).run Vh w'=.ok (.tuple #[.int .u32 x,.agg (rF c.asks c.k0.toNat c.k1.toNat c.k2.toNat c.k3.toNat c.k4.toNat c.k5.toNat c.till c.load)]) w'->
    wpList Vh ops R rest (a.put o.dst (.tuple #[.bool true,.int .u32 x,.agg (rF c.asks c.k0.toNat c.k1.toNat c.k2.toNat c.k3.toNat c.k4.toNat c.k5.toNat c.till c.load)])) w'):
  wpList Vh ops R (o::rest) a w:=by
 refine wpList_plain hg fun K' hK'=> ?_;unfold Oper.wp
 rcases h.next (ai ah) o.type with⟨h0,hl,hrun⟩|⟨key,v,kl,y,w',cnt',hkey,hlk,hv,hat,hrun,hrg,hlt,hgr,hsz,hen⟩
 ·simp[execOp,hop,hit,hrun,Result.andThen]
  exact hK' _ _ (hDone h0 hl)
 obtain⟨x,rfl,rfl,hwf⟩:=Maps.keyOf_int_inv ah hkey;have hh:=Maps.has_true_of_atKey hat;obtain⟨c,hc,hq⟩:=hC x hh;obtain⟨y1,y2⟩:=y;have e:y1=c.d:=(hat bC.d).symm.trans hc;subst e;obtain rfl:=aF5 hv;simp[execOp,hop,hit,hrun,Result.andThen];exact hK' _ _ (hMore x c w' cnt' (Vu hwf) hlk hh hq hc hrg hlt hgr hsz hen)
end
theorem jh{u u':fV}{n r:Nat}(h:gm n w u)(g:u.grownBy u' (some r))(hn:n<=u.heap.size)(hr:n<=r):gm n w u':=
 h.trans ⟨g.os,g.tape,g.output,g.size,fun k hk=>g.block k (by omega) (by simp;omega)⟩
theorem aG{u u':fV}{n:Nat}(h:gm n w u)(g:u.grownBy u' none)(hn:n<=u.heap.size):gm n w u':=
 h.trans ⟨g.os,g.tape,g.output,g.size,fun k hk=>g.block k (by omega) (by simp)⟩
end Js
namespace Js
open Bs
variable{w0:fV} {P:Nat→Prop} {w w':fV} {B:Nat} {m m':Mc}
theorem bj9(x:Nb)(u:fV):(Instr.field 157 (.agg (rF x.asks x.k0.toNat x.k1.toNat x.k2.toNat x.k3.toNat x.k4.toNat x.k5.toNat x.till x.load)) 2).run Vh u=.ok (.int .i64 x.till) u:=by kernel_rfl
theorem J3{Q:Nb->Prop}{bm:Nat}{D:DataW Unit}(hown:w.ownsMap Vh 36 Qz bm 4 D)(hC:Cd Q D)(hs:∃k:Lit,Maps.has D k=true):
  f_ Vh 173 #[.map (some bm)] w fun ee w'=>∃a:Int,ee=.returned (.int .u32 a)/\(0<=a/\a<=4294967295)/\Maps.has D (.int .u32 a)=true/\gm w.heap.size w w':=by
 have HC:=M0 hC;have HS:=M0 hs;clear hC hs;go_enter func173,ntmps173;go_wp2_with (first|(at_range;refine wpList_range_own _ rfl _ 102 rfl 36 157 (ai ah) bf9 Qz bm 4 D rfl hown ?_;intro w1 hrg1 hg1 hs1)|go_in);go_frame
 go_loopw [3,4] (fun v f wr=>∃(left:Lit->Bool) (cnt:Nat) (a:Int) (b:Bool),v=.int .u32 a/\f=.bool b/\wr.ranges Vh 36 Qz bm w.heap.size 4 D left cnt/\(0<=a/\a<=4294967295)/\Hid (b=true->Maps.has D (.int .u32 a)=true)/\Hid (b=false->∀kl,left kl=Maps.has D kl)/\Hid (gm w.heap.size w wr)) (fun _ _ wr=>wr.rangeLeft bm w.heap.size)
 case atStart=>exact⟨_,_,0,false,rfl,rfl,hrg1,by decide,M0 (fun e=>by cases e),M0 (fun _ _=>rfl),M0 (aG (aS8 _ _) hg1 (aS5 _))⟩
 obtain⟨left,cnt,a,b,rfl,rfl,hrg,ha,HT,HF,HB⟩:=hrel;have hm0:=hrg.left_eq;obtain⟨x,hx,_⟩:=HC.look a;have hx':=M0 hx;clear hx;go_wp2_with (first|(at_next;refine aN (Q:=Q) rfl _ rfl bm w.heap.size 4 D left cnt HC rfl hrg ?_ ?_)|go_in)
 ·intro hc0 hl0
  go_wp2;go_ret
  cases b with
  |true=>exact⟨a,rfl,ha,HT rfl,HB⟩
  |false=>
   obtain⟨k,hk⟩:=gB HS;rw[<-HF rfl,hl0]at hk
   cases hk
 intro y c w2 cnt2 hy1 hy2 hly hhy hq hcy hrg2 hlt hg2 hs2 hen;have hL:=bO (w:=w2.alloc (.cells (rF c.asks c.k0.toNat c.k1.toNat c.k2.toNat c.k3.toNat c.k4.toNat c.k5.toNat c.till c.load) 157 (0,0))) (hrg2.owns.alloc _) a ha x hx';unfold Nb.v at hL;have hFd:=fun u=>bj9 x u;have hHY:=M0 hhy;clear hhy hly hq hcy;have hwl:w.heap.size<=wr.heap.size:=HB.size;have HB2:=M0 (jh HB hg2 hwl (aS5 _))
 cases b with
 |false=>
  go_wp2;go_roundw
  case rel=>exact⟨_,cnt2,y,true,rfl,rfl,hrg2.alloc _,⟨hy1,hy2⟩,M0 (fun _=>gB hHY),M0 (fun e=>by cases e),M0 (HB2.alloc (by omega) _)⟩
  rw[(hrg2.alloc _).left_eq,hm0];exact hlt
 |true=>
  go_wp2;all_goals go_roundw
  all_goals first
   |exact⟨_,cnt2,y,true,rfl,rfl,hrg2.alloc _,⟨hy1,hy2⟩,M0 (fun _=>gB hHY),M0 (fun e=>by cases e),M0 (HB2.alloc (by omega) _)⟩
   |exact⟨_,cnt2,a,true,rfl,rfl,hrg2.alloc _,ha,HT,M0 (fun e=>by cases e),M0 (HB2.alloc (by omega) _)⟩
   |(rw[(hrg2.alloc _).left_eq,hm0];exact hlt)
end Js
namespace Js
open Bs Go.Sort
def Rg(d:Array Int):Prop:=∀t:Nat,0<=d[t]!/\d[t]!<=4294967295
theorem Rg.swp{d:Array Int}(h:Rg d){i j:Nat}(hi:i<d.size)(hj:j<d.size):Rg (Sort.swp d i j):=by
 intro t;rw[Sort.swp_get d hi hj]
 split
 ·exact h _
 split
 ·exact h _
 exact h _
theorem bB{α:Type}[Inhabited α](enc:α->Value)(w:fV)(m q blk off:Nat)(d:Array α):(putRow enc (Sort.ahead w m) blk off d).drewN q=putRow enc (Sort.ahead w (m+q)) blk off d:=by
 show Sort.ahead (putRow enc (Sort.ahead w m) blk off d) q=_;rw[putRow_ahead enc w m,ahead_ahead,<-putRow_ahead]
theorem swap_world'{α:Type}[Inhabited α](enc:α->Value)(w:fV)(m q blk off:Nat)(d:Array α)(j k:Nat)(hj:j<d.size)(hk:k<d.size):
  (((putRow enc (Sort.ahead w m) blk off d).drewN q).setCell ⟨blk,off+j,none⟩ (enc d[k]!)).setCell ⟨blk,off+k,none⟩ (enc d[j]!)=putRow enc (Sort.ahead w (m+q)) blk off (Sort.swp d j k):=by
 rw[bB];exact putRow_swp enc _ blk off d j k hj hk
theorem Vx(x:Int)(w:fV):f_ Vh 240 #[.int .u32 x] w fun e w'=>e=.returned (.bool false)/\w'=w:=by
 go_enter func240,ntmps240;go_wp2;go_ret;exact⟨by simp,rfl⟩
theorem bE8(x y:Int)(w:fV):f_ Vh 210 #[.int .u32 x,.int .u32 y] w fun e w'=>e=.returned (.bool (decide (x<y)))/\w'=w:=by
 go_enter func210,ntmps210;go_wp2_with (go_at_call 240;refine(Vx _ _).mono ?_;rintro e w' ⟨rfl,rfl⟩);go_ret;exact⟨rfl,rfl⟩
theorem dN(blk off cap b:Nat)(d:Array Int)(w:fV)(hH:Holds (Value.int .u32) w blk off d)(hR:Rg d)(hb:b<=d.size)(hsz:d.size<1000):
  f_ Vh 204 #[.slice (some ⟨blk,off,none⟩) d.size cap,.int .i64 0,.int .i64 b] w fun e w'=>
   e=.returned (.tuple #[])/\∃n d',Rg d'/\d'.size=d.size/\w'=putRow (Value.int .u32) (Sort.ahead w n) blk off d':=by
 go_enter func204,ntmps204;go_wp2;go_loopw [6] (fun vi wr=>∃(i n:Nat) (dk:Array Int),vi=.int .i64 i/\0<i/\i<=b+1/\dk.size=d.size/\wr=putRow (Value.int .u32) (Sort.ahead w n) blk off dk/\Hid (Rg dk)) (fun vi _=>b+1-(intOf vi).toNat)
 case atStart=>exact⟨1,0,d,by go_num,by omega,by omega,rfl,(putRow_self _ _ _ _ _ hH).symm,M0 hR⟩
 obtain⟨i,n,dk,rfl,hai,hib,hsk,hwr,HO⟩:=hrel;clear hR;go_wp2
 ·go_loopw [7] (fun vj wr2=>∃(j m:Nat) (dj:Array Int),vj=.int .i64 j/\j<=i/\dj.size=d.size/\wr2=putRow (Value.int .u32) (Sort.ahead w m) blk off dj/\Hid (Rg dj)) (fun vj _=>(intOf vj).toNat)
  case atStart=>exact⟨i,n,dk,rfl,aS5 _,hsk,rfl,HO⟩
  obtain⟨j,m,dj,rfl,hji,hsj,hw2,HI⟩:=hrel;have hlt:i<b:=by assumption
  obtain⟨G,hG⟩:∃G:Nat->Int,∀t,G t=dj[t]!:=⟨fun t=>dj[t]!,fun _=>rfl⟩;have hcw:∀t,t<d.size->wr.cell? ⟨blk,off+t,none⟩=some (.int .u32 (G t)):=fun t ht=>by
   rw[hw2,hG];exact cell?_putRow _ _ _ _ d dj (holds_ahead _ _ _ _ _ _ hH) hsj t (by omega)
  have hfw:∀t,t<d.size->wr.frozen? ⟨blk,off+t,none⟩=false:=fun t ht=>by
   rw[hw2,frozen?_putRow];exact((holds_ahead _ _ m _ _ _ hH) t ht).2
  have HW:Hid (wr=putRow (Value.int .u32) (Sort.ahead w m) blk off dj):=hw2;have HG:Hid (∀t,G t=dj[t]!):=hG;clear hw2 hG hH;have out:∀q,∃i' n' dk',Value.int .i64 ((i:Int)+1)=.int .i64 (i':Nat)/\0<i'/\i'<=b+1/\dk'.size=d.size/\wr.drewN q=putRow (Value.int .u32) (Sort.ahead w n') blk off dk'/\Hid (Rg dk'):=fun q=>
   ⟨i+1,m+q,dj,by go_num,by omega,by omega,hsj,by rw[HW.out];exact bB _ _ _ _ _ _ _,HI⟩
  have OUT:Hid _:=out;clear out;go_wp2
  by_cases hja:0<j
  ·go_quiet (first|(go_at_call 210;refine bd2 (bE8 _ _ _)))
   go_wp2
   ·go_region
    all_goals go_wp2
    go_roundw
    case rel=>
     refine⟨j-1,m+(nq+1),Sort.swp dj j (j-1),by congr 1;omega,by omega,by rw[size_swp];exact hsj,?_,M0 (HI.swp (by omega) (by omega))⟩;rw[HW.out,HG.out,HG.out];exact swap_world' _ w m (nq+1) blk off dj j (j-1) (by omega) (by omega)
    simp[intOf];omega
   go_roundw
   case rel=>exact OUT.out nq
   simp[intOf];omega
  go_quiet (first|(go_at_call 210;refine bd2 (bE8 _ _ _)));go_wp2;go_roundw
  case rel=>exact OUT.out nq
  simp[intOf];omega
 go_end0;exact⟨rfl,n,dk,HO,hsk,rfl⟩
theorem bl4(blk off cap:Nat)(k:Int)(d:Array Int)(w:fV)(hH:Holds (Value.int .u32) w blk off d)(hR:Rg d)(hsz:d.size<=4):
  f_ Vh 171 #[.slice (some ⟨blk,off,none⟩) d.size cap,.int .i64 0,.int .i64 d.size,.int .i64 k] w fun e w'=>
   e=.returned (.tuple #[])/\∃n d',Rg d'/\d'.size=d.size/\w'=putRow (Value.int .u32) (Sort.ahead w n) blk off d':=by
 have HI:=M0 (dN blk off cap d.size d w hH hR (aS5 _) (by omega));obtain⟨z,hz⟩:∃z:Nat,z=d.size:=⟨_,rfl⟩;rw[<-hz]at HI ⊢;have hz4:z<=4:=by omega
 clear hH hR hsz hz;go_enter func171,ntmps171;go_wp2;refine aX5 1 ?_;rw[aU9];go_wp2_with (go_at_call 204;refine HI.mono ?_;rintro ee u ⟨rfl,HO⟩;replace HO:=M0 HO);go_returns
 exact⟨rfl,HO⟩
theorem Vw(n:Nat)(hn:n<=4)(w:fV):f_ Vh 214 #[.int .u64 n] w fun ee w'=>∃k,ee=.returned (.int .i64 k)/\w'=w:=by
 obtain rfl|rfl|rfl|rfl|rfl:n=0∨n=1∨n=2∨n=3∨n=4:=by omega
 all_goals
  go_enter func214,ntmps214;go_wp2;go_ret;exact⟨_,rfl,rfl⟩
theorem bl6(n:Nat)(hn:n<=4)(w:fV):f_ Vh 172 #[.int .u64 n] w fun ee w'=>∃k,ee=.returned (.int .i64 k)/\w'=w:=by
 have HL:=M0 (Vw n hn w);go_enter func172,ntmps172;go_wp2_with (go_at_call 214;refine HL.mono ?_;rintro ee u ⟨k,rfl,rfl⟩);go_ret;exact⟨_,rfl,rfl⟩
theorem bj8(blk off cap:Nat)(d:Array Int)(w:fV)(hH:Holds (Value.int .u32) w blk off d)(hR:Rg d)(hsz:d.size<=4):
  f_ Vh 133 #[.slice (some ⟨blk,off,none⟩) d.size cap] w fun e w'=>
   e=.returned (.tuple #[])/\∃n d',Rg d'/\d'.size=d.size/\w'=putRow (Value.int .u32) (Sort.ahead w n) blk off d':=by
 have HP:=M0 (fun k=>bl4 blk off cap k d w hH hR hsz);have HL:=M0 (bl6 d.size hsz w);obtain⟨z,hz⟩:∃z:Nat,z=d.size:=⟨_,rfl⟩;rw[<-hz]at HP HL ⊢;have hz4:z<=4:=by omega
 clear hH hR hsz hz;go_enter func133,ntmps133;go_wp2_with (first|(go_at_call 172;refine HL.mono ?_;rintro ee u ⟨k,rfl,rfl⟩)|(go_at_call 171;refine(HP _).mono ?_;rintro ee u ⟨rfl,HO⟩;replace HO:=M0 HO));go_end0;exact⟨rfl,HO⟩
end Js
namespace Js
open Bs
variable{w0:fV} {P:Nat→Prop} {w w':fV} {B:Nat} {m m':Mc}
theorem PU.refl(w:fV)(b:Nat):PU w w b:=⟨rfl,rfl,rfl,aS5 _,fun _ _ _=>rfl⟩
theorem PU.grown{u u':fV}{b:Nat}{r:Option Nat}(h:PU w u b)(g:u.grownBy u' r)(hr:∀k,r=some k->w.heap.size<=k∨k=b):PU w u' b:=
 ⟨g.os.trans h.os,g.tape.trans h.tape,g.output.trans h.output,aT9 h.size g.size,fun k hk hn=>(g.block k (aU1 hk h.size) (by
  intro e
  rcases hr k e.symm with e1|e1
  ·omega
  exact hn e1)).trans (h.block k hk hn)⟩
theorem aK{u u':fV}(h:gm u.heap.size u u'):u.grownBy u' none:=⟨h.os,h.tape,h.output,h.size,fun k hk _=>h.block k hk⟩
theorem eO(n:Nb)(now:Int)(w:fV):f_ Vh 132 #[n.v,.int .i64 now] w fun ee w'=>∃b,ee=.returned (.bool b)/\gm w.heap.size w w':=by
 unfold Nb.v;go_enter func132,ntmps132;go_wp2;go_ret;exact⟨_,rfl,(aS8 _ _).alloc (aS5 _) _⟩
theorem nine{u:fV}{g:Nat}{t:TypeId}{a0 a1 a2 a3 a4 a5 a6 a7 a8:Value}(h:u.heap[g]?=some (.cells #[a0,a1,a2,a3,a4,a5,a6,a7,a8] t (0,0))):
  u.cell? (a_ g 0)=some a0/\u.cell? (a_ g 1)=some a1/\u.cell? (a_ g 2)=some a2/\u.cell? (a_ g 3)=some a3/\u.cell? (a_ g 4)=some a4/\u.cell? (a_ g 5)=some a5/\u.cell? (a_ g 6)=some a6/\u.cell? (a_ g 7)=some a7/\u.cell? (a_ g 8)=some a8:=
 ⟨aS3 _ _ _ _ _ _ h,aS3 _ _ _ _ _ _ h,aS3 _ _ _ _ _ _ h,aS3 _ _ _ _ _ _ h,aS3 _ _ _ _ _ _ h,aS3 _ _ _ _ _ _ h,aS3 _ _ _ _ _ _ h,aS3 _ _ _ _ _ _ h,aS3 _ _ _ _ _ _ h⟩
theorem kU(n:Nb)(now:Int)(w:fV):f_ Vh 131 #[n.v,.int .i64 now] w fun ee w'=>∃b,ee=.returned (.bool b)/\gm w.heap.size w w':=by
 have HU:=M0 (fun u=>eO n now u);have HK:=M0 (fun u=>af8 n u);unfold Nb.v at HU HK ⊢;have HA:=M0 (aS6 w (.cells (rF n.asks n.k0.toNat n.k1.toNat n.k2.toNat n.k3.toNat n.k4.toNat n.k5.toNat n.till n.load) 157 (0,0)));go_enter func131,ntmps131;go_wp2_with fail;refine(HU _).mono ?_;rintro ee u ⟨b,rfl,hu⟩;have hr:=(hu.block w.heap.size (by simp)).trans HA;obtain⟨c0,c1,c2,c3,c4,c5,c6,c7,c8⟩:=nine hr;have HB:=M0 (b1_.trans (hu.mono (by simp)));clear hu
 cases b with
 |false=>
  go_wp2;go_ret;exact⟨_,rfl,HB⟩
 |true=>
  go_wp2_with fail;refine on_ (HK _) fun u2 hu2=>?_;have hr2:=(hu2.block w.heap.size (aT3 hr)).trans hr;obtain⟨d0,d1,d2,d3,d4,d5,d6,d7,d8⟩:=nine hr2;have hwu:w.heap.size<=u.heap.size:=HB.size;have HB2:=M0 (HB.trans (hu2.mono hwu));clear hu2 c0 c1 c2 c3 c4 c5 c6 c7 c8;go_wp2;all_goals go_ret
  all_goals exact⟨_,rfl,HB2⟩
theorem pK{Q:Nb->Prop}{bm:Nat}{D:DataW Unit}(now:Int)(hown:w.ownsMap Vh 36 Qz bm 4 D)(hC:Cd Q D):
  f_ Vh 83 #[.map (some bm),.int .i64 now] w fun ee w'=>ee=.returned (.tuple #[])/\∃D',w'.ownsMap Vh 36 Qz bm 4 D'/\Cd Q D'/\PU w w' bm:=by
 have HC:=M0 hC;have hlt:=JA hown;have HG:=M0 (fun n u=>kU n now u);unfold Nb.v at HG;clear hC;go_enter func83,ntmps83;go_wp2_with (first|(at_range;refine wpList_range_own _ rfl _ 102 rfl 36 157 (ai ah) bf9 Qz bm 4 D rfl hown ?_;intro w1 hrg1 hg1 hs1)|go_in);go_frame
 go_loopw [] (fun wr=>∃(left:Lit->Bool) (cnt:Nat) (D':DataW Unit),wr.ranges Vh 36 Qz bm w.heap.size 4 D' left cnt/\Hid (Cd Q D')/\Hid (PU w wr bm)) (fun wr=>wr.rangeLeft bm w.heap.size)
 case atStart=>exact⟨_,_,_,hrg1,HC,M0 ((PU.refl w bm).grown hg1 (by simp))⟩
 obtain⟨left,cnt,D',hrg,HD,HT⟩:=hrel;rename fV=>wr;have hm0:=hrg.left_eq;go_wp2_with (first|(at_next;refine aN (Q:=Q) rfl _ rfl bm w.heap.size 4 D' left cnt HD rfl hrg ?_ ?_)|go_in)
 ·intro hc0 hl0
  go_wp2;go_end0;exact⟨rfl,D',hrg.owns,HD,HT⟩
 intro y c w2 cnt2 hy1 hy2 hly hhy hq hcy hrg2 hlt2 hg2 hs2 hen;clear hhy hly hq hcy;have hwl:w.heap.size<=wr.heap.size:=HT.size;have HT2:=M0 ((HT.grown hg2 (fun k e=>by cases e;exact aT2 (aS5 _))).grown (World.grownBy_alloc w2 (.cells (rF c.asks c.k0.toNat c.k1.toNat c.k2.toNat c.k3.toNat c.k4.toNat c.k5.toNat c.till c.load) 157 (0,0)) none) (by simp));have HR2:=M0 (hrg2.alloc (.cells (rF c.asks c.k0.toNat c.k1.toNat c.k2.toNat c.k3.toNat c.k4.toNat c.k5.toNat c.till c.load) 157 (0,0)));clear hrg hrg2 HT;go_wp2_with (first|(go_at_call 131;refine(HG c _).mono ?_;rintro ee u ⟨b,rfl,hu⟩;have hrg3:=HR2.kept (aK hu) (by simp) (by simp);have HT3:=M0 (HT2.grown (aK hu) (by simp));clear hu)|(at_delete;refine wpList_delete_ranges _ rfl _ _ 102 36 rfl 157 (ai ah) bf9 Qz bm w.heap.size 4 D' _ _ rfl hrg3 _ _ rfl (aG2 y ⟨hy1,hy2⟩) ?_;intro w3 cnt3 hrg4 hle hturn)|go_in)
 ·go_frame
  go_roundw
  case rel=>exact⟨_,cnt3,_,hrg4,M0 (HD.del _),M0 (HT3.grown hturn.grown (fun k e=>by cases e;exact aT7 rfl))⟩
  rw[hrg4.left_eq,hm0];omega
 go_roundw
 case rel=>exact⟨_,cnt2,_,hrg3,HD,HT3⟩
 rw[hrg3.left_eq,hm0];exact hlt2
theorem bl8:(prog.info? 36).map (fun i=>(i.zero,i.size,i.bytes))=some (some (.int .u32 0),1,4):=by kernel_rfl
theorem eT{P:Program}{k:TypeId}{R:Value->Option (DataW Unit×List MemPlace)}{b r n:Nat}{D:DataW Unit}{left:Lit->Bool}{cnt:Nat}{base:Nat}{e:TypeId}{z:Nat}{v:Value}{l:Nat}{xs:List Value}(h:w.ranges P k R b r n D left cnt)(ho:w.ownsRow base e z v l xs){g:Nat}(hg:v.ownBlock=some g):g≠r/\g≠b:=by
 obtain⟨es,clock,since,seen,c0,hb,_,_,_,hit,_⟩:=h
 rcases ho.2 with⟨h1,_⟩|⟨g',cap,cur,e1,e2,e3,e4⟩
 ·rw[h1]at hg;cases hg
 rw[e1]at hg;have:g'=g:=aU2 hg;subst this;constructor
 ·rintro rfl
  rw[hit]at e3;cases e3
 rintro rfl;rw[hb]at e3;cases e3
theorem VB(cur:Array Value)(ts:List Int)(h:ts.length<=cur.size):(Go.Sort.putCells (Value.int .u32) 0 ts.toArray cur).toList.take ts.length=ts.map (Value.int .u32):=by
 apply bg1;intro j
 by_cases hj:j<ts.length
 ·rw[ak hj,ba0]
  simp[Go.Sort.putCells,hj,show j<cur.size by omega]
 rw[List.getElem?_take_eq_none (by omega),be1 (by simp;omega)]
theorem VR{base:Nat}{ao:Option Addr}{cp:Nat}{ks:List Int}(ho:w.ownsRow base 36 1 (.slice ao ks.length cp) ks.length (ks.map (Value.int .u32)))(hr:∀x ∈ ks,0<=x/\x<=4294967295)(hl:ks.length<=4):
  f_ Vh 133 #[.slice ao ks.length cp] w fun e w'=>e=.returned (.tuple #[])/\∃ts:List Int,ts.length=ks.length/\(∀x ∈ ts,0<=x/\x<=4294967295)/\w'.ownsRow base 36 1 (.slice ao ks.length cp) ks.length (ts.map (Value.int .u32))/\w.grownBy w' (Value.ownBlock (.slice ao ks.length cp)):=by
 rcases ho.2 with⟨h1,h2⟩|⟨g,cap,cur,e1,e2,e3,e4,e5,e6,e7⟩
 ·injection h1 with a1 a2 a3
  subst a1 a3;rw[a2];refine(Nf w).mono ?_;rintro e u ⟨rfl,rfl⟩;refine⟨rfl,ks,a2,hr,by rw[a2]at ho;exact ho,⟨rfl,rfl,rfl,aS5 _,fun _ _ _=>rfl⟩⟩
 injection e1 with a1 a2 a3
 subst a1 a3;have hH:Go.Sort.Holds (Value.int .u32) w g 0 ks.toArray:=by
  intro j hj;have hj':j<ks.length:=by simpa using hj
  refine⟨?_,by simp[World.frozen?,e3]⟩;have h1:(cur.toList.take ks.length)[j]?=(ks.map (Value.int .u32))[j]?:=by rw[bg5]at e7;rw[e7]
  rw[ak hj']at h1;simp only[World.cell?,e3,bd3];simp only[Option.isSome_none,aZ0,bd9];rw[<-ba0,h1];simp[hj']
 have hR:Rg ks.toArray:=by
  intro t
  by_cases ht:t<ks.length
  ·simp[ht]
   exact hr _ (aZ6 ht)
  simp[ht]
 have q:=bj8 g 0 cp ks.toArray w hH hR (by simpa using hl);rw[aZ9]at q;refine q.mono ?_;rintro e u ⟨rfl,n,d',hR',hs',rfl⟩;have hl2:d'.toList.length=ks.length:=by simpa using hs'
 refine⟨rfl,d'.toList,hl2,?_,⟨by simp[hs'],aT7 ⟨g,cp,Go.Sort.putCells (Value.int .u32) 0 d' cur,rfl,e2,?_,e4,e5,?_,?_⟩⟩,⟨rfl,rfl,rfl,by simp[Go.Sort.ahead],fun k hk hne=> ?_⟩⟩
 ·intro x hx
  obtain⟨t,ht,rfl⟩:=List.getElem_of_mem hx;have:=hR' t;simp at ht;simpa[ht]using this
 ·simp[Go.Sort.putRow,Go.Sort.mapBlock,Go.Sort.ahead,au,e3,Go.Sort.onCells]
 ·simp[Go.Sort.putCells,e6]
 ·rw[bg5,<-hl2]
  have:=VB cur d'.toList (by omega);simpa using this
 have:g≠k:=fun e=>hne (by rw[e];rfl);simp[Go.Sort.putRow,Go.Sort.mapBlock,Go.Sort.ahead,au,this]
theorem Vp{Q:Nb->Prop}{bm:Nat}{D:DataW Unit}(hown:w.ownsMap Vh 36 Qz bm 4 D)(hC:Cd Q D)(a:Int)(ha:0<=a/\a<=4294967295)(n:Nb)
  (hr:Maps.has D (.int .u32 a)=false) (hr4:Maps.size D=4):
  f_ Vh 134 #[.map (some bm),.int .u32 a,n.v] w fun ee w'=>ee=.returned (.tuple #[])/\(∃k,Maps.has D k=true/\w'.ownsMap Vh 36 Qz bm 5 ((D.del k).put (.int .u32 a) n.d))/\PU w w' bm:=by
 have hlt:=JA hown;obtain⟨x,hx,_⟩:=hC.look a;have hne:∃k:Lit,Maps.has D k=true:=by
  obtain⟨es,rfl,_⟩:=hown.entries (ai ah)
  cases es with
  |nil=>simp[Maps.size]at hr4
  |cons p l=>
   obtain⟨es2,e2,_,h2⟩:=hown.entries (ai ah);injection e2 with e2
   have hk:=h2 p (by rw[<-e2];simp);refine⟨p.1,?_⟩;simp only[Maps.has,bh6,Bool.or_eq_true];exact aT2 (WideAt.sameKey_self hk)
 obtain⟨o1,ho1⟩:=ex_ (Obj.cells (rF n.asks n.k0.toNat n.k1.toNat n.k2.toNat n.k3.toNat n.k4.toNat n.k5.toNat n.till n.load) 157 (0,0));obtain⟨o2,ho2⟩:=ex_ (Obj.cells (rF x.asks x.k0.toNat x.k1.toNat x.k2.toNat x.k3.toNat x.k4.toNat x.k5.toNat x.till x.load) 157 (0,0));have hL:(Instr.lookup 102 (.map (some bm)) (.int .u32 a) true).run Vh (w.alloc o1)=.ok (.tuple #[x.v,.bool (Maps.has D (.int .u32 a))]) (w.alloc o1):=YE (oP hown (aT1 w _ _ hlt)) a ha x hx;have HK:=M0 (aG2 a ha);have HR:=M0 (aN4 n);have h2:=(hown.alloc o1).alloc o2;have HN:=h2.len (t:=102) bf9 3;have HF:=M0 (J3 h2 hC hne);have HO:=M0 h2;have HBL:=M0 (((aS8 w.heap.size w).alloc (aS5 _) o1).alloc (by simp) o2);have HA1:Hid (((w.alloc o1).alloc o2).heap[w.heap.size]?=some o1):=M0 ((aT1 (w.alloc o1) _ _ (by simp)).trans (aS6 w o1));rw[ho1,ho2]at HN HF HO HBL HA1;rw[ho1]at hL;unfold Nb.v at hL HR ⊢;rw[hr4]at HN;rw[hr]at hL;clear ho1 ho2 h2 hown hC hne;have hz:(Nat.cast 4:Int)=4:=rfl;rw[hz]at HN;go_enter func134,ntmps134;go_wp2_with fail;refine HF.mono ?_;rintro ee u ⟨f,rfl,hf,hhf,hu⟩;have hou:=M0 (oP HO (hu.block bm (aU1 hlt HBL.size)));have hbu:=M0 (HBL.trans (hu.mono HBL.size));have hau:=M0 ((hu.block w.heap.size (gG HA1)).trans HA1);have HKF:=M0 (aG2 f hf);clear hu HF HO HBL HA1;go_wp2_with (first|(at_delete;refine wpList_delete_own _ rfl _ _ 102 36 rfl 157 (ai ah) bf9 Qz bm 4 D rfl hou _ _ rfl HKF ?_;intro w1 hown1 hturn1;have hr1:=(hturn1.grown.block w.heap.size (gG hau) (by simp;omega)).trans hau;obtain⟨c0,c1,c2,c3,c4,c5,c6,c7,c8⟩:=nine hr1;replace hown1:=M0 hown1;replace hturn1:=M0 hturn1)|(at_mapUpdate;refine wpList_mapUpdate_in _ rfl _ _ _ 102 rfl 36 157 (ai ah) bf9 Qz bm 4 (D.del (.int .u32 f)) rfl hown1 (by decide) _ _ _ rfl rfl HK n.d [] (gB HR) ?_;intro w2 hown2 hturn2)|go_in);go_end0;exact⟨rfl,⟨_,hhf,hown2⟩,((PU.of hbu hturn1).grown hturn2.grown (fun k e=>by cases e;exact aT7 rfl))⟩
theorem R9{Q:Nb->Prop}{bm:Nat}{D:DataW Unit}(hown:w.ownsMap Vh 36 Qz bm 4 D)(hC:Cd Q D)(a:Int)(ha:0<=a/\a<=4294967295)(n:Nb)(hn:Q n):
  f_ Vh 134 #[.map (some bm),.int .u32 a,n.v] w fun ee w'=>ee=.returned (.tuple #[])/\(∃D',w'.ownsMap Vh 36 Qz bm 4 D'/\Cd Q D')/\PU w w' bm:=by
 have ht:=hown.tidy (ai ah);have hm:=hown.isMap;have h4:=hown.size_le;obtain⟨x,hx,_⟩:=hC.look a
 by_cases hh:Maps.has D (.int .u32 a)=true
 ·refine on_ (aw4 hown a ha n x hx (aT2 hh) (by rw[Maps.size_put ht,aU0 hh];exact h4)) ?_
  rintro u ⟨h1,h2⟩;exact⟨rfl,⟨_,h1,hC.put hm a n hn⟩,h2⟩
 have hf:Maps.has D (.int .u32 a)=false:=by simpa using hh
 by_cases hs:Maps.size D<4
 ·refine on_ (aw4 hown a ha n x hx (aT7 ⟨hf,hs⟩) (by rw[Maps.size_put ht,aT4 hh];omega)) ?_
  rintro u ⟨h1,h2⟩;exact⟨rfl,⟨_,h1,hC.put hm a n hn⟩,h2⟩
 refine on_ (Vp hown hC a ha n hf (by omega)) ?_;rintro u ⟨⟨k,hk,h1⟩,h2⟩;refine⟨rfl,⟨_,aa7 h1 ?_,(hC.del k).put (hm.del k) a n hn⟩,h2⟩;have e1:=Maps.size_del (k:=k) ht;rw[aU0 hk]at e1;rw[Maps.size_put (ht.del k)]
 split<;>omega
def Mc.bn(m:Mc)(D:DataW Unit):Mc:={m with cd:=D}
theorem bN{Q:Nb->Prop}(h:Mx w0 P w B m)(hC:Cd Q m.cd){a:Int}(ha:0<=a/\a<=4294967295)(n:Nb)(hn:Q n):f_ Vh 134 #[.map (some m.bm),.int .u32 a,n.v] w fun ee w'=>ee=.returned (.tuple #[])/\∃D,Cd Q D/\Mx w0 P w' B (m.bn D)/\PU w w' m.bm:=by
 refine on_ (R9 h.map hC a ha n hn) ?_;rintro w' ⟨⟨D,ho,hD⟩,ht⟩;exact⟨rfl,D,hD,h.mapped ht ho,ht⟩
theorem dF{Q:Nb->Prop}(h:Mx w0 P w B m)(ho:m.Ok){a:Int}(ha:0<=a/\a<=4294967295)(hC:Cd Q m.cd)(n:Nb)(hn:Q (n.more m.now)):f_ Vh 85 #[p_ B,.int .u32 a,n.v] w fun ee w'=>ee=.returned (.tuple #[])/\∃D,Cd Q D/\Mx w0 P w' B ((m.bn D).aH2 a):=
 (VI h n (fun z=>∃D,Cd Q D/\z=m.bn D) (fun z=>∃D,Cd Q D/\z=(m.bn D).aH2 a) (fun u hu=>(bN hu hC ha _ hn).mono fun _ _ ⟨e,D,hD,q,t⟩=>⟨e,_,⟨⟨D,hD,rfl⟩,rfl⟩,q,t⟩) (fun _ u ⟨D,hD,e⟩ hu=>by subst e;exact(aE1 hu ho.addr a ha).mono fun _ _ ⟨e',q⟩=>⟨e',_,⟨D,hD,rfl⟩,q⟩)).mono fun _ _ ⟨e,_,⟨D,hD,r⟩,q⟩=>⟨e,D,hD,r▸q⟩
theorem ES(h:Mx w0 P w B m)(ho:m.Ok):f_ Vh 184 #[p_ B] w fun ee w'=>ee=.returned (.tuple #[])/\∃b,Mx w0 P w' B ((m.say 4 m.qD).fail.at b):=by
 have HF:=M0 (yu h ho);clear h;go_enter func184,ntmps184;go_wp2_with fail;refine HF.mono ?_;rintro ee u1 ⟨g,rfl,hu1,hg1⟩;have HS:=M0 (LP hu1 ho g m.qD hg1 (by show(2:Nat)<=4;omega) (zU m));clear hu1 hg1 HF;go_wp2_with fail;refine on_ HS fun u2 hu2=>?_;have HL:=M0 (oM hu2);clear hu2 HS;go_wp2_with fail;refine on_ HL ?_;rintro u3 ⟨b,hu3⟩;have HU:=M0 hu3;clear hu3 HL;go_wp2;go_end0;exact⟨rfl,b,HU⟩
def Mc.other(m:Mc)(f0 f1 f2 f3 f4 f5:Int):Bool:= !(f0==(m.k0.toNat:Int) && f1==(m.k1.toNat:Int) && f2==(m.k2.toNat:Int) && f3==(m.k3.toNat:Int) && f4==(m.k4.toNat:Int) && f5==(m.k5.toNat:Int))
theorem uN(h:Mx w0 P w B m)(hst:m.st=3)(op f0 f1 f2 f3 f4 f5 fip t0 t1 t2 t3 t4 t5 tip:Int):f_ Vh 183 #[p_ B,.agg (rE op f0 f1 f2 f3 f4 f5 fip t0 t1 t2 t3 t4 t5 tip)] w fun ee w'=>ee=.returned (.bool (fip==m.iB && m.other f0 f1 f2 f3 f4 f5))/\gm w.heap.size w w':=by
 have nk:=h.nk;rw[hst]at nk;have uF:=h.uF;have c1:=h.c1;have c2:=h.c2;have c3:=h.c3;have c4:=h.c4;have c5:=h.c5;have c6:=h.c6;have hB:=h.lt;have hne:B≠w.heap.size:=aU4 hB;have hq:=fun u=>iC f0 f1 f2 f3 f4 f5 m.k0.toNat m.k1.toNat m.k2.toNat m.k3.toNat m.k4.toNat m.k5.toNat u;obtain⟨bo,hbo⟩:=ex_ ((f0==(m.k0.toNat:Int) && f1==(m.k1.toNat:Int) && f2==(m.k2.toNat:Int) && f3==(m.k3.toNat:Int) && f4==(m.k4.toNat:Int) && f5==(m.k5.toNat:Int)));have ho:m.other f0 f1 f2 f3 f4 f5= !bo:=by rw[hbo];rfl
 rw[ho];rw[<-hbo]at hq;clear h hst hbo ho
 cases hf:(fip==m.iB)with
 |false=>
  go_enter func183,ntmps183;go_wp2;go_quiet (fail);go_wp2;go_ret;exact⟨rfl,below_drewN b1_ _⟩
 |true=>
  cases bo with
  |false=>
   go_enter func183,ntmps183;go_wp2;go_quiet (fail);go_wp2;go_ret;exact⟨rfl,below_drewN b1_ _⟩
  |true=>
   go_enter func183,ntmps183;go_wp2;go_quiet (fail);go_wp2;go_ret;exact⟨rfl,below_drewN b1_ _⟩
end Js
namespace Js
open Bs
variable{w0:fV} {P:Nat→Prop} {w w':fV} {B Q:Nat} {m m':Mc}
theorem EB(h:Mx w0 P w B m)(hst:m.st<4)(hcd:m.cd=.map [])(load:ByteArray)(op f0 f1 f2 f3 f4 f5 fip t0 t1 t2 t3 t4 t5 tip k:Int)
  (hT:∀(w0:fV) (P:Nat->Prop) (u:fV),Mx w0 P u B m->f_ Vh 183 #[p_ B,.agg (rE op f0 f1 f2 f3 f4 f5 fip t0 t1 t2 t3 t4 t5 tip)] u fun ee w'=>ee=.returned (.bool false)/\gm u.heap.size u w')
  (hR:∀u,f_ Vh 63 #[.string load] u fun e w'=>e=.returned (.tuple #[.agg (rE op f0 f1 f2 f3 f4 f5 fip t0 t1 t2 t3 t4 t5 tip),.int .i64 k])/\gm u.heap.size u w'):
  f_ Vh 145 #[p_ B,.string load] w fun ee w'=>ee=.returned (.tuple #[])/\Mx w0 P w' B m:=by
 have HR:=M0 (hR w);have HM:=M0 h;clear hR h;go_enter func145,ntmps145;go_wp2_with fail;refine on_ HR fun u1 hb1=>?_;have HNF: ¬iq B m u1.heap.size:=fun hf=>bh8 _ ((HM.below hb1).ik hf);have HM1:=M0 ((HM.below hb1).alloc (.cells (rE op f0 f1 f2 f3 f4 f5 fip t0 t1 t2 t3 t4 t5 tip) 87));clear hb1 HR HM
 by_cases hk:k=0
 ·subst hk
  have HR1:Hid ((u1.alloc (.cells (rE op f0 f1 f2 f3 f4 f5 fip t0 t1 t2 t3 t4 t5 tip) 87)).heap[u1.heap.size]?=some (.cells (rE op f0 f1 f2 f3 f4 f5 fip t0 t1 t2 t3 t4 t5 tip) 87 (0,0))):=M0 (aS6 u1 _);have HC1:=M0 (hT _ _ _ HM1);go_wp2_with fail;refine on_ HC1 fun u2 hb2=>?_;have HM2:=M0 (HM1.below hb2);have HR2:=M0 ((hb2.block u1.heap.size (gG HR1)).trans HR1);clear hb2 HC1 HM1 HR1;obtain⟨x0,x1,x2,x3,x4,x5,x6,x7,x8,x9,x10,x11,x12,x13,x14⟩:=oZ HR2;have HC2:=M0 (AL HM2.base hst hcd op f0 f1 f2 f3 f4 f5 fip t0 t1 t2 t3 t4 t5 tip);go_wp2_with fail;refine on_ HC2 fun u3 hk3=>?_;have HM3:=M0 (HM2.join hk3);have HR3:=M0 ((hk3.kept u1.heap.size (gG HR2) HNF).trans HR2);clear hk3 HC2 HM2 HR2 x0 x1 x2 x3 x4 x5 x6 x7 x8 x9 x10 x11 x12 x13 x14;obtain⟨x0,x1,x2,x3,x4,x5,x6,x7,x8,x9,x10,x11,x12,x13,x14⟩:=oZ HR3;have HC3:=M0 (vI HM3 hst op f0 f1 f2 f3 f4 f5 fip t0 t1 t2 t3 t4 t5 tip);go_wp2_with fail;refine on_ HC3 fun u4 hb4=>?_;have HM4:=M0 (HM3.below hb4);clear hb4 HC3 HM3 HR3;go_wp2;go_returns
  exact⟨rfl,HM4⟩
 have hkk:(k !=0)=true:=by simpa using hk
 go_wp2;go_returns
 exact⟨rfl,HM1⟩
theorem Dg(h:Mx w0 P w B m)(ho:m.Ok)(hst:m.st=3)(load:ByteArray)(op f0 f1 f2 f3 f4 f5 fip t0 t1 t2 t3 t4 t5 tip:Int)(hi:fip=m.iB)(ho2:m.other f0 f1 f2 f3 f4 f5=true)
  (hR:∀u,f_ Vh 63 #[.string load] u fun e w'=>e=.returned (.tuple #[.agg (rE op f0 f1 f2 f3 f4 f5 fip t0 t1 t2 t3 t4 t5 tip),.int .i64 0])/\gm u.heap.size u w'):
  f_ Vh 145 #[p_ B,.string load] w fun ee w'=>ee=.returned (.tuple #[])/\∃b,Mx w0 P w' B ((m.say 4 m.qD).fail.at b):=by
 have HR:=M0 (hR w);have HM:=M0 h;have HI2:=M0 hi;have HO2:=M0 ho2;have HST:=M0 hst;clear hi ho2 hst;clear hR h;go_enter func145,ntmps145;go_wp2_with fail;refine on_ HR fun u1 hb1=>?_;have HNF: ¬iq B m u1.heap.size:=fun hf=>bh8 _ ((HM.below hb1).ik hf);have HM1:=M0 ((HM.below hb1).alloc (.cells (rE op f0 f1 f2 f3 f4 f5 fip t0 t1 t2 t3 t4 t5 tip) 87));clear hb1 HR HM;have HC1:=M0 (uN HM1 HST op f0 f1 f2 f3 f4 f5 fip t0 t1 t2 t3 t4 t5 tip);rw[show(fip==m.iB && m.other f0 f1 f2 f3 f4 f5)=true from by rw[gB HO2,gB HI2];simp]at HC1;obtain⟨v,hv⟩:=ex_ (u1.alloc (.cells (rE op f0 f1 f2 f3 f4 f5 fip t0 t1 t2 t3 t4 t5 tip) 87));rw[<-hv]at HC1 HM1;go_wp2_with fail;rw[<-hv];refine on_ HC1 fun u2 hb2=>?_;have HD:=M0 (ES (HM1.below hb2) ho);clear hb2 HC1 HM1;go_wp2_with fail;refine on_ HD ?_;rintro u3 ⟨b,hu⟩;have HU:=M0 hu;clear hu HD;go_wp2;go_returns
 exact⟨rfl,b,HU⟩
end Js
end Go.Proofs.YtdgacidndknceaaGreatDoor
