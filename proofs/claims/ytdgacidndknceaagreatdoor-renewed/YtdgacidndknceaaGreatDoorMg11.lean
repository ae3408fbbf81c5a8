import Derived.Test.YtdgacidndknceaaGreatDoorMg14
set_option linter.all false
set_option maxHeartbeats 4000000
set_option maxRecDepth 10000
open Go.ChangeShapes Go.WideShapes Go.ChangeAt Go.RowKit
open Go renaming World → fV, Calls → f_
open Go.RowKit renaming Below → gm
open Go.Proofs.Tryz renaming prog → Vh
open Go.Value renaming int → Vb
open Go.IntKind renaming u8 → Vd, u16 → Ve, u32 → Vf, i64 → Vg
open Go.Proofs.Tryz
namespace Go.Proofs.YtdgacidndknceaaGreatDoor
namespace Ho
open Bs Rd Dh
theorem az8:List.replicate 202 (0:UInt8)=List.replicate 10 0++(List.replicate 64 0++List.replicate 128 0):=by decide+kernel
theorem aB6(rep:Bool)(gF cl yo ne:Int)(k0 k1 k2 k3 k4 k5:UInt8)(os:gU)(hx:0<=gF/\gF<=4294967295)(hc:0<=cl/\cl<=4294967295)(hy:0<=yo/\yo<=4294967295)(hn:0<=ne/\ne<=4294967295)(hbad:bad os=false)(hadd:gW [] os=os)(hz:(mr rep gF cl yo ne [k0,k1,k2,k3,k4,k5] os).length<=1472)(u:fV):
  f_ Vh 122 #[.string (nH rep gF cl yo ne [k0,k1,k2,k3,k4,k5] os)] u fun ee w'=>Lp.IE os.length (gT os) u (fun sa sc=>.tuple #[.agg (rA rep gF cl yo ne k0.toNat k1.toNat k2.toNat k3.toNat k4.toNat k5.toNat sa os.length sc),Vb Vg 0]) ee w':=by
 have hS:nH rep gF cl yo ne [k0,k1,k2,k3,k4,k5] os=⟨(rR (mr rep gF cl yo ne [k0,k1,k2,k3,k4,k5] os)).toArray⟩:=by
  unfold nH;rw[bo4 (by rw[hbad];decide),bo4 (by omega)]
 obtain⟨s,hs0⟩:=ex_ (nH rep gF cl yo ne [k0,k1,k2,k3,k4,k5] os);rw[<-hs0];have hs:=hs0.trans hS;clear hs0 hS;obtain⟨z,hzz⟩:=ex_ (List.replicate (300-(mr rep gF cl yo ne [k0,k1,k2,k3,k4,k5] os).length) (0:UInt8));have hfl:(rR (mr rep gF cl yo ne [k0,k1,k2,k3,k4,k5] os)).length<=1772:=by
  unfold rR;rw[bn6,bt4];omega
 have hL:s.data.toList=gJ (TV rep)::1::6::gJ 0::gJ (gF/65536/256)::gJ (gF/65536)::gJ (gF%65536/256)::gJ (gF%65536)::gJ (0/256)::gJ 0::gJ (QD cl/256)::gJ (QD cl)::gJ (cl/65536/256)::gJ (cl/65536)::gJ (cl%65536/256)::gJ (cl%65536)::gJ (yo/65536/256)::gJ (yo/65536)::gJ (yo%65536/256)::gJ (yo%65536)::gJ (ne/65536/256)::gJ (ne/65536)::gJ (ne%65536/256)::gJ (ne%65536)::gJ (0/65536/256)::gJ (0/65536)::gJ (0%65536/256)::gJ (0%65536)::k0::k1::k2::k3::k4::k5::(List.replicate 10 0++(List.replicate 64 0++(List.replicate 128 0++([99,130,83,99]++(jb os++255::z))))):=by
  rw[hs];show rR (mr rep gF cl yo ne [k0,k1,k2,k3,k4,k5] os)=_;unfold rR;rw[<-hzz];unfold mr kG;rw[az8];simp only[NI,iA,g_,iY,iy,bu9,List.flatMap_nil,bq1,bw1,bw8,br8]
 have n4:∀x:Int,0<=x/\x<=4294967295->16777216*((gJ (x/65536/256)).toNat:Int)+65536*((gJ (x/65536)).toNat:Int)+256*((gJ (x%65536/256)).toNat:Int)+((gJ (x%65536)).toNat:Int)=x:=fun x hx=>by rw[lh,lh,lh,lh];omega
 have ob:=Dh.ar6 os z (List.replicate 64 0) (List.replicate 128 0) hbad;rw[hadd]at ob;have hop:(((gJ (TV rep)).toNat:Int)==1||((gJ (TV rep)).toNat:Int)==2)=true:=by cases rep<;>decide
 have hrp:(((gJ (TV rep)).toNat:Int)==2)=rep:=by cases rep<;>decide
 have hlen:s.data.toList.length<=1048576:=by rw[hs];show(rR _).length<=_;omega
 clear hs hzz hfl;refine Lp.Hl s rep gF cl yo ne _ _ _ _ _ _ _ _ u (fun u=>Lp.nK s rep gF cl yo ne _ _ _ _ _ _ _ _ u (fun u' B hr _=> ?_));rw[hL]at hr hlen;have q:=Dh.Ni B _ _ _ _ _ _ _ _ _ _ _ _ _ _ _ _ _ _ _ _ _ _ _ _ _ _ _ _ _ _ _ _ _ _ _ _ _ ⟨(List.replicate 10 0).toArray⟩ ⟨(List.replicate 64 0).toArray⟩ ⟨(List.replicate 128 0).toArray⟩ ⟨#[99,130,83,99]⟩ u' hr hlen rfl rfl rfl rfl rfl rfl rfl rfl rep hop hrp rfl;rw[n4 gF hx,n4 cl hc,n4 yo hy,n4 ne hn]at q;refine q.mono ?_;rintro ee w' ⟨hg,hp⟩;have k0:nE (jb os++255::z) (⟨(List.replicate 64 0).toArray⟩:ByteArray).data.toList (⟨(List.replicate 128 0).toArray⟩:ByteArray).data.toList=0:=ob.1;rw[bp0 k0]at hp;obtain⟨ao,cp,rfl,hown⟩:=hp;have k1:oW (jb os++255::z) (⟨(List.replicate 64 0).toArray⟩:ByteArray).data.toList (⟨(List.replicate 128 0).toArray⟩:ByteArray).data.toList=os:=ob.2;rw[k1]at hown ⊢;exact⟨⟨ao,cp,rfl,hown⟩,hg⟩
theorem aJ6(rep:Bool)(gF cl yo ne:Int)(k0 k1 k2 k3 k4 k5:UInt8)(os:gU)(hx:0<=gF/\gF<=4294967295)(hc:0<=cl/\cl<=4294967295)(hy:0<=yo/\yo<=4294967295)(hn:0<=ne/\ne<=4294967295)(hbad:bad os=false)(hadd:gW [] os=os)(hz:(mr rep gF cl yo ne [k0,k1,k2,k3,k4,k5] os).length<=1472)(u:fV):
  f_ Vh 66 #[.string (nH rep gF cl yo ne [k0,k1,k2,k3,k4,k5] os)] u fun ee w'=>Lp.IE os.length (gT os) u (fun sa sc=>.tuple #[.agg (rA rep gF cl yo ne k0.toNat k1.toNat k2.toNat k3.toNat k4.toNat k5.toNat sa os.length sc),Vb Vg 0]) ee w':=
 Lp.Yq _ rep gF cl yo ne _ _ _ _ _ _ _ _ u (fun u=>aB6 rep gF cl yo ne k0 k1 k2 k3 k4 k5 os hx hc hy hn hbad hadd hz u)
end Ho
namespace Ho
open Bs Js
def dg(n:Nat):List UInt8:=if n<10 then [UInt8.ofNat (48+n)]else dg (n/10)++ [UInt8.ofNat (48+n%10)]
termination_by n
decreasing_by omega
theorem aR7(x:Int)(h:0<=x/\x<=9223372036854775807):IntKind.i64.wrap x=x:=by
 rw[bB0];omega
theorem ae5(n:Nat):(dg n).length<=n+1:=by
 induction n using Nat.strongRecOn with
 |_ n ih=>
  rw[dg]
  split
  ·simp
  have:=ih (n/10) (by omega);rw[bn6,List.length_singleton];omega
theorem cell_below{u u':fV}{g j:Nat}{v:Value}(h:u.cell? (a_ g j)=some v)(hb:gm u.heap.size u u'):u'.cell? (a_ g j)=some v:=by
 have hg:g<u.heap.size:=Dh.CP h;rw[<-h];simp only[World.cell?];rw[hb.block g hg]
theorem Zf(x:Nat)(hx:x<256)(u:fV)(g:Nat)(h:u.cell? (a_ g 0)=some (Vb Vd (x:Int))):(convert 73 9 (.slice (some (a_ g 0)) 1 1)).run Vh u=.ok (.string ⟨#[UInt8.ofNat x]⟩) u:=
 bv8 (P:=Vh) u 73 9 5 (a_ g 0) 1 [UInt8.ofNat x] br3 bv4 bs8 (fun j hj=>by
  have hj0:j=0:=by simp at hj;omega
  subst hj0;rw[show(((a_ g 0):Addr).add 0)=(a_ g 0)from rfl,h];have:((UInt8.ofNat x).toNat:Int)=x:=by simp;omega
  exact by5 (fun z=>some (Vb Vd z)) this.symm)
theorem af2(n:Nat)(hn:n<=1000000000)(w:fV)(hA: ¬n<10->∀u,f_ Vh 75 #[Vb Vg ((n/10:Nat):Int)] u fun e w'=>e=.returned (.string ⟨(dg (n/10)).toArray⟩)/\gm u.heap.size u w'):
  f_ Vh 75 #[Vb Vg n] w fun e w'=>e=.returned (.string ⟨(dg n).toArray⟩)/\gm w.heap.size w w':=by
 by_cases h10:n<10
 ·have hni:(n:Int)<10:=by omega
  have hcv0:=Zf (48+n) (by omega) (w.alloc (.cells #[Vb Vd (48+(n:Int))] 5)) w.heap.size (by
   rw[bn0 _ _ 0 _ _ _ (bn3 w _)]
   exact by5 (fun z=>some (Vb Vd z)) (by omega))
  obtain⟨bt,hbt⟩:=ex_ (UInt8.ofNat (48+n));rw[<-hbt]at hcv0;have HDG:Hid (dg n=[bt]):=M0 (by rw[dg,bp0 h10,hbt]);have hc8:(48+(n:Int))%256=48+(n:Int):=by omega
  clear hbt hA;go_enter func75,ntmps75;go_wp2;go_ret;refine⟨?_,(bn9 _ _).alloc (bn7 _) _⟩;rw[gB HDG];rfl
 have hni: ¬(n:Int)<10:=by omega
 obtain⟨q,hqn⟩:∃q:Nat,q=n/10:=⟨_,rfl⟩;have HA0:=hA h10;rw[<-hqn]at HA0;obtain⟨sA,hsA⟩:∃sA:ByteArray,sA=⟨(dg q).toArray⟩:=⟨_,rfl⟩;rw[<-hsA]at HA0;have HA:=M0 HA0;obtain⟨bt,hbt⟩:=ex_ (UInt8.ofNat (48+n%10));have HCV:Hid (∀(u:fV) (g:Nat),u.cell? (a_ g 0)=some (Vb Vd (48+(n:Int)%10))->(convert 73 9 (.slice (some (a_ g 0)) 1 1)).run Vh u=.ok (.string ⟨#[bt]⟩) u):=M0 (fun u g h=>by
  rw[hbt]
  exact Zf (48+n%10) (by omega) u g (by rw[h];exact by5 (fun z=>some (Vb Vd z)) (by omega)))
 have HEQ:Hid (Ending.returned (.string (sA++(⟨#[bt]⟩:ByteArray)))=Ending.returned (.string ⟨(dg n).toArray⟩)):=M0 (by
  rw[dg,bo4 h10,<-hqn,hsA,hbt]
  congr 2)
 have hsz:sA.size<=9223372036854775806:=by
  rw[hsA];show(dg q).toArray.size<=_;rw[bt3];have:=ae5 q;omega
 have hw1:IntKind.i64.wrap (q:Int)=(q:Int):=aR7 _ (by omega);have ht:(n:Int).tmod 10=(n:Int)%10:=bz4 (by omega);have hw2:IntKind.i64.wrap (48+(n:Int)%10)=48+(n:Int)%10:=aR7 _ (by omega);have hw3:IntKind.u8.wrap (48+(n:Int)%10)=48+(n:Int)%10:=by
  have:IntKind.u8.wrap (48+(n:Int)%10)=(48+(n:Int)%10)%256:=rfl;rw[this];omega
 have hq:(n:Int)/10=(q:Int):=by omega
 have hc8:(48+(n:Int)%10)%256=48+(n:Int)%10:=by omega
 clear hA h10 HA0 hqn hsA hbt;go_enter func75,ntmps75;go_wp2_with fail;refine wp_region_held_drew (S:=fun _=>True) (by kernel_rfl) trivial (fun hHeld=> ?_);have HB:Hid (gm w.heap.size w w.drew):=M0 ((bn9 _ _).drew);refine tkH_ (i:=0) (v:=(Vb Vg n)) rfl (by kernel_rfl) (fun _ _ _ h=>h) (bo1 ⟨by rfl,?_⟩) hHeld ?_
 ·(intro wz hSz;go_simp)
 try simp only[Act.put,bn4,bn2,bn1,bm7,bm8,bm9]
 refine tkH_ (i:=1) (v:=(Vb Vg (q:Int))) rfl (by kernel_rfl) (fun _ _ _ h=>h) (bo1 ⟨by rfl,?_⟩) hHeld ?_
 ·(intro wz hSz;(have:=hq;go_simp))
 try simp only[Act.put,bn4,bn2,bn1,bm7,bm8,bm9]
 refine tkH_ (i:=3) (v:=(Vb Vg n)) rfl (by kernel_rfl) (fun _ _ _ h=>h) (bo1 ⟨by rfl,?_⟩) hHeld ?_
 ·(intro wz hSz;go_simp)
 try simp only[Act.put,bn4,bn2,bn1,bm7,bm8,bm9]
 refine tkH_ (i:=4) (v:=(Vb Vg ((n:Int)%10))) rfl (by kernel_rfl) (fun _ _ _ h=>h) (bo1 ⟨by rfl,?_⟩) hHeld ?_
 ·(intro wz hSz;go_simp)
 try simp only[Act.put,bn4,bn2,bn1,bm7,bm8,bm9]
 refine tkH_ (i:=5) (v:=(Vb Vg (48+(n:Int)%10))) rfl (by kernel_rfl) (fun _ _ _ h=>h) (bo1 ⟨by rfl,?_⟩) hHeld ?_
 ·(intro wz hSz;go_simp)
 try simp only[Act.put,bn4,bn2,bn1,bm7,bm8,bm9]
 refine tkH_ (i:=6) (v:=(Vb Vd (48+(n:Int)%10))) rfl (by kernel_rfl) (fun _ _ _ h=>h) (bo1 ⟨by rfl,?_⟩) hHeld ?_
 ·(intro wz hSz;(have:=hc8;go_simp))
 try simp only[Act.put,bn4,bn2,bn1,bm7,bm8,bm9]
 refine wpAnyH_ready (rs:=[2,7]) (by kernel_rfl) (by simp) ?_;refine AllReadyH.cons rfl (fun K hK=> ?_) (AllReadyH.cons rfl (fun K hK=> ?_) AllReadyH.nil)
 ·go_simp
  refine on_ (HA _) fun u2 hb2=>?_;have HBx2:Hid (gm w.heap.size w u2):=M0 (HB.trans (hb2.mono HB.size));clear hb2;go_wp2_with fail;clear hHeld;refine hK.out _ _ ?_ (fun hHeld=> ?_)
  ·exact trivial
  clear hK K;try simp only[Act.put,bn4,bn2,bn1,bm7,bm8,bm9]
  refine wpAnyH_ready (rs:=[7]) (by kernel_rfl) (by simp) ?_;refine AllReadyH.cons rfl (fun K hK=> ?_) AllReadyH.nil;go_simp
  have HBx2x7:Hid (gm w.heap.size w ((u2).alloc (.cells #[Vb Vd (48+(n:Int)%10)] 5))):=M0 (HBx2.alloc HBx2.size _);have HG:Hid (World.cell? ((u2).alloc (.cells #[Vb Vd (48+(n:Int)%10)] 5)) (a_ ((u2).heap.size) 0)=some (Vb Vd (48+(n:Int)%10))):=M0 (bn0 _ _ 0 _ _ _ (bn3 _ _));clear hHeld;refine hK.out _ _ ?_ (fun hHeld=> ?_)
  ·exact trivial
  clear hK K;try simp only[Act.put,bn4,bn2,bn1,bm7,bm8,bm9]
  refine Wh (S':=fun u=>u.cell? (a_ ((u2).heap.size) 0)=some (Vb Vd (48+(n:Int)%10))) (fun _ _=>trivial) _ _ _ _ ?_;replace hHeld:=gB HG
  refine tkH_ (i:=8) (v:=(.string ⟨#[bt]⟩)) rfl (by kernel_rfl) (fun _ _ _ h=>h) (bo1 ⟨by rfl,?_⟩) hHeld ?_
  ·(intro wz hSz;(have hcv:=HCV wz _ hSz;go_simp))
  try simp only[Act.put,bn4,bn2,bn1,bm7,bm8,bm9]
  refine tkH_ (i:=9) (v:=(.string (sA++⟨#[bt]⟩))) rfl (by kernel_rfl) (fun _ _ _ h=>h) (bo1 ⟨by rfl,?_⟩) hHeld ?_
  ·(intro wz hSz;go_simp)
  try simp only[Act.put,bn4,bn2,bn1,bm7,bm8,bm9]
  refine tkH_ (i:=10) (v:=(.string (sA++⟨#[bt]⟩))) rfl (by kernel_rfl) (fun _ _ _ h=>h) (bo1 ⟨by rfl,?_⟩) hHeld ?_
  ·(intro wz hSz;go_simp)
  try simp only[Act.put,bn4,bn2,bn1,bm7,bm8,bm9]
  refine bw0 (by kernel_rfl) ?_ _;go_wp2;go_ret;refine⟨?_,HBx2x7⟩;rw[<-gB HEQ];rfl
 go_simp
 have HBx7:Hid (gm w.heap.size w ((w.drew).alloc (.cells #[Vb Vd (48+(n:Int)%10)] 5))):=M0 (HB.alloc HB.size _);have HG:Hid (World.cell? ((w.drew).alloc (.cells #[Vb Vd (48+(n:Int)%10)] 5)) (a_ ((w.drew).heap.size) 0)=some (Vb Vd (48+(n:Int)%10))):=M0 (bn0 _ _ 0 _ _ _ (bn3 _ _));clear hHeld;refine hK.out _ _ ?_ (fun hHeld=> ?_)
 ·exact trivial
 clear hK K;try simp only[Act.put,bn4,bn2,bn1,bm7,bm8,bm9]
 refine Wh (S':=fun u=>u.cell? (a_ ((w).heap.size) 0)=some (Vb Vd (48+(n:Int)%10))) (fun _ _=>trivial) _ _ _ _ ?_;replace hHeld:=gB HG
 refine tkH_ (i:=8) (v:=(.string ⟨#[bt]⟩)) rfl (by kernel_rfl) (fun _ _ _ h=>h) (bo1 ⟨by rfl,?_⟩) hHeld ?_
 ·(intro wz hSz;(have hcv:=HCV wz _ hSz;go_simp))
 try simp only[Act.put,bn4,bn2,bn1,bm7,bm8,bm9]
 refine wpAnyH_ready (rs:=[2]) (by kernel_rfl) (by simp) ?_;refine AllReadyH.cons rfl (fun K hK=> ?_) AllReadyH.nil;go_simp
 refine on_ (HA _) fun u2 hb2=>?_;have HBx7x2:Hid (gm w.heap.size w u2):=M0 (HBx7.trans (hb2.mono HBx7.size));have HG:Hid (u2.cell? (a_ ((w).heap.size) 0)=some (Vb Vd (48+(n:Int)%10))):=M0 (cell_below HG hb2);clear hb2;go_wp2_with fail;clear hHeld;refine hK.out _ _ ?_ (fun hHeld=> ?_)
 ·exact HG
 clear hK K;try simp only[Act.put,bn4,bn2,bn1,bm7,bm8,bm9]
 refine tkH_ (i:=9) (v:=(.string (sA++⟨#[bt]⟩))) rfl (by kernel_rfl) (fun _ _ _ h=>h) (bo1 ⟨by rfl,?_⟩) hHeld ?_
 ·(intro wz hSz;go_simp)
 try simp only[Act.put,bn4,bn2,bn1,bm7,bm8,bm9]
 refine tkH_ (i:=10) (v:=(.string (sA++⟨#[bt]⟩))) rfl (by kernel_rfl) (fun _ _ _ h=>h) (bo1 ⟨by rfl,?_⟩) hHeld ?_
 ·(intro wz hSz;go_simp)
 try simp only[Act.put,bn4,bn2,bn1,bm7,bm8,bm9]
 refine bw0 (by kernel_rfl) ?_ _;go_wp2;go_ret;refine⟨?_,HBx7x2⟩;rw[<-gB HEQ];rfl
theorem ai5(n:Nat)(hn:n<=1000000000)(w:fV):f_ Vh 75 #[Vb Vg n] w fun e w'=>e=.returned (.string ⟨(dg n).toArray⟩)/\gm w.heap.size w w':=by
 induction n using Nat.strongRecOn generalizing w with
 |_ n ih=>exact af2 n hn w (fun h u=>ih (n/10) (by omega) (by omega) u)
end Ho
end Go.Proofs.YtdgacidndknceaaGreatDoor
