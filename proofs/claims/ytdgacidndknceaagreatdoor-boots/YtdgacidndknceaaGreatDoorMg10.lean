import Derived.Test.YtdgacidndknceaaGreatDoorMg13
set_option linter.all false
set_option maxHeartbeats 4000000
set_option maxRecDepth 10000
open Go.ChangeShapes Go.WideShapes Go.ChangeAt Go.RowKit
open Go renaming World → fV, Calls → f_
open Go.RowKit renaming Below → gm
open Go.Proofs.Tryz renaming prog → Vh
open Go.Value renaming int → Vb
open Go.IntKind renaming u8 → Vd, u16 → Ve, u32 → Vf, i64 → Vg
open Go.Proofs.Tryz
namespace Go.Proofs.YtdgacidndknceaaGreatDoor
namespace Ho
open Bs Rd Dh
theorem az8:List.replicate 202 (0:UInt8)=List.replicate 10 0++(List.replicate 64 0++List.replicate 128 0):=by decide+kernel
theorem aB6(rep:Bool)(gF cl yo ne:Int)(k0 k1 k2 k3 k4 k5:UInt8)(os:gU)(hx:0<=gF/\gF<=4294967295)(hc:0<=cl/\cl<=4294967295)(hy:0<=yo/\yo<=4294967295)(hn:0<=ne/\ne<=4294967295)(hbad:bad os=false)(hadd:gW [] os=os)(hz:(mr rep gF cl yo ne [k0,k1,k2,k3,k4,k5] os).length<=1472)(u:fV):
  f_ Vh 122 #[.string (nH rep gF cl yo ne [k0,k1,k2,k3,k4,k5] os)] u fun ee w'=>Lp.IE os.length (gT os) u (fun sa sc=>.tuple #[.agg (rA rep gF cl yo ne k0.toNat k1.toNat k2.toNat k3.toNat k4.toNat k5.toNat sa os.length sc),Vb Vg 0]) ee w':=by
 have hS:nH rep gF cl yo ne [k0,k1,k2,k3,k4,k5] os=⟨(rR (mr rep gF cl yo ne [k0,k1,k2,k3,k4,k5] os)).toArray⟩:=by
  unfold nH;rw[bo4 (by rw[hbad];decide),bo4 (by omega)]
 obtain⟨s,hs0⟩:=ex_ (nH rep gF cl yo ne [k0,k1,k2,k3,k4,k5] os);rw[<-hs0];have hs:=hs0.trans hS;clear hs0 hS;obtain⟨z,hzz⟩:=ex_ (List.replicate (300-(mr rep gF cl yo ne [k0,k1,k2,k3,k4,k5] os).length) (0:UInt8));have hfl:(rR (mr rep gF cl yo ne [k0,k1,k2,k3,k4,k5] os)).length<=1772:=by
  unfold rR;rw[bn6,bt4];omega
 have hL:s.data.toList=gJ (TV rep)::1::6::gJ 0::gJ (gF/65536/256)::gJ (gF/65536)::gJ (gF%65536/256)::gJ (gF%65536)::gJ (0/256)::gJ 0::gJ (QD cl/256)::gJ (QD cl)::gJ (cl/65536/256)::gJ (cl/65536)::gJ (cl%65536/256)::gJ (cl%65536)::gJ (yo/65536/256)::gJ (yo/65536)::gJ (yo%65536/256)::gJ (yo%65536)::gJ (ne/65536/256)::gJ (ne/65536)::gJ (ne%65536/256)::gJ (ne%65536)::gJ (0/65536/256)::gJ (0/65536)::gJ (0%65536/256)::gJ (0%65536)::k0::k1::k2::k3::k4::k5::(List.replicate 10 0++(List.replicate 64 0++(List.replicate 128 0++([99,130,83,99]++(jb os++255::z))))):=by
  rw[hs];show rR (mr rep gF cl yo ne [k0,k1,k2,k3,k4,k5] os)=_;unfold rR;rw[<-hzz];unfold mr kG;rw[az8];simp only[NI,iA,g_,iY,iy,bu9,List.flatMap_nil,bq1,bw1,bw8,br8]
 have n4:∀x:Int,0<=x/\x<=4294967295->16777216*((gJ (x/65536/256)).toNat:Int)+65536*((gJ (x/65536)).toNat:Int)+256*((gJ (x%65536/256)).toNat:Int)+((gJ (x%65536)).toNat:Int)=x:=fun x hx=>by rw[lh,lh,lh,lh];omega
 have ob:=Dh.ar6 os z (List.replicate 64 0) (List.replicate 128 0) hbad;rw[hadd]at ob;have hop:(((gJ (TV rep)).toNat:Int)==1||((gJ (TV rep)).toNat:Int)==2)=true:=by cases rep<;>decide
 have hrp:(((gJ (TV rep)).toNat:Int)==2)=rep:=by cases rep<;>decide
 have hlen:s.data.toList.length<=1048576:=by rw[hs];show(rR _).length<=_;omega
 clear hs hzz hfl;refine Lp.bf5 s rep gF cl yo ne _ _ _ _ _ _ _ _ u (fun u=>Lp.nK s rep gF cl yo ne _ _ _ _ _ _ _ _ u (fun u' B hr _=> ?_));rw[hL]at hr hlen;have q:=Dh.Ni B _ _ _ _ _ _ _ _ _ _ _ _ _ _ _ _ _ _ _ _ _ _ _ _ _ _ _ _ _ _ _ _ _ _ _ _ _ ⟨(List.replicate 10 0).toArray⟩ ⟨(List.replicate 64 0).toArray⟩ ⟨(List.replicate 128 0).toArray⟩ ⟨#[99,130,83,99]⟩ u' hr hlen rfl rfl rfl rfl rfl rfl rfl rfl rep hop hrp rfl;rw[n4 gF hx,n4 cl hc,n4 yo hy,n4 ne hn]at q;refine q.mono ?_;rintro ee w' ⟨hg,hp⟩;have k0:nE (jb os++255::z) (⟨(List.replicate 64 0).toArray⟩:ByteArray).data.toList (⟨(List.replicate 128 0).toArray⟩:ByteArray).data.toList=0:=ob.1;rw[bp0 k0]at hp;obtain⟨ao,cp,rfl,hown⟩:=hp;have k1:oW (jb os++255::z) (⟨(List.replicate 64 0).toArray⟩:ByteArray).data.toList (⟨(List.replicate 128 0).toArray⟩:ByteArray).data.toList=os:=ob.2;rw[k1]at hown ⊢;exact⟨⟨ao,cp,rfl,hown⟩,hg⟩
theorem aJ6(rep:Bool)(gF cl yo ne:Int)(k0 k1 k2 k3 k4 k5:UInt8)(os:gU)(hx:0<=gF/\gF<=4294967295)(hc:0<=cl/\cl<=4294967295)(hy:0<=yo/\yo<=4294967295)(hn:0<=ne/\ne<=4294967295)(hbad:bad os=false)(hadd:gW [] os=os)(hz:(mr rep gF cl yo ne [k0,k1,k2,k3,k4,k5] os).length<=1472)(u:fV):
  f_ Vh 66 #[.string (nH rep gF cl yo ne [k0,k1,k2,k3,k4,k5] os)] u fun ee w'=>Lp.IE os.length (gT os) u (fun sa sc=>.tuple #[.agg (rA rep gF cl yo ne k0.toNat k1.toNat k2.toNat k3.toNat k4.toNat k5.toNat sa os.length sc),Vb Vg 0]) ee w':=
 Lp.Yq _ rep gF cl yo ne _ _ _ _ _ _ _ _ u (fun u=>aB6 rep gF cl yo ne k0 k1 k2 k3 k4 k5 os hx hc hy hn hbad hadd hz u)
end Ho
namespace Ho
open Bs Js
variable{w w':fV} {H:Nat} {h:Host}
theorem az7(x:Int)(h:0<=x/\x<=9223372036854775807):IntKind.i64.wrap x=x:=by
 rw[bB0];omega
def WN(bl:Nat)(D:List UInt8):Tf.RH:=⟨3,bl,[],D,[]⟩
def YD(bl:Nat)(D:List UInt8):ByteArray:=⟨(Tf.U7 (WN bl D)).toArray⟩
def Host.YP(h:Host)(n:Nat):Host:={h with id:=if n=0 then h.id else IntKind.u16.wrap (h.id+n)}
theorem aw1(h:Host)(n:Nat):(h.YP n).Ww=h.YP (n+1):=by
 unfold Host.YP Host.Ww;have e:IntKind.u16.wrap ((if n=0 then h.id else IntKind.u16.wrap (h.id+n))+1)=IntKind.u16.wrap (h.id+((n+1:Nat):Int)):=by
  show _%65536=_%65536
  split
  ·rename_i hn;subst hn;simp
  show((h.id+n)%65536+1)%65536=_;push_cast
  omega
 simp only[e];rfl
theorem aC5{u:fV}{b n:Nat}{v:Value}{xs:List Value}(o:u.ownsRow (b+1) 9 1 v n xs):u.ownsRow b 9 1 v n xs:=
 ⟨o.1,o.2.imp id (fun⟨g,cap,cur,e1,e2,e3⟩=>⟨g,cap,cur,e1,Nat.le_of_succ_le e2,e3⟩)⟩
structure Bk (w u:fV) (H:Nat) (h:Host) (f t:Int) (ld:ByteArray) (v:Value) (n:Nat) (l:List ByteArray):Prop where
 at':At u H h
 cd:NA u
 tn:PU w u H
 bx:u.heap[w.heap.size]?=some (.cells (rF f t ld) 69 (0,0))
 own:u.ownsRow (w.heap.size+1) 9 1 v n (Js.strs l)
variable{u u':fV} {f t:Int} {ld:ByteArray} {v:Value} {n:Nat} {l:List ByteArray}
theorem Bk.below(b:Bk w u H h f t ld v n l)(hb:gm u.heap.size u u'):Bk w u' H h f t ld v n l:=
 ⟨b.at'.below hb,b.cd.below hb,Sd b.tn hb,(hb.block _ (gG b.bx)).trans b.bx,iN b.own (fun j hj=>hb.block j (b.own.lt j hj).2)⟩
theorem Bk.host(b:Bk w u H h f t ld v n l)(hH:H<w.heap.size)(h0:(0:Nat)≠H)(h1:(1:Nat)≠H){h':Host}(k:At u' H h')(tn:PU u u' H):Bk w u' H h' f t ld v n l:=
 ⟨k,b.cd.of (tn.block _ b.cd.lt.1 h0) (tn.block _ b.cd.lt.2 h1),⟨tn.os.trans b.tn.os,tn.tape.trans b.tn.tape,tn.output.trans b.tn.output,bo6 b.tn.size tn.size,fun j hj hn=>(tn.block j (bo9 hj b.tn.size) hn).trans (b.tn.block j hj hn)⟩,(tn.block _ (gG b.bx) (by omega)).trans b.bx,iN b.own (fun j hj=>tn.block j (b.own.lt j hj).2 (by have:=(b.own.lt j hj).1;omega))⟩
theorem Bk.push(b:Bk w u H h f t ld v n l)(hH:H<w.heap.size)(hc:0<w.heap.size/\1<w.heap.size){v':Value}{fr:ByteArray}(o:u'.ownsRow (w.heap.size+1) 9 1 v' (n+1) (Js.strs l++ [.string fr]))(g:u.grownBy u' v.ownBlock):Bk w u' H h f t ld v' (n+1) (l++ [fr]):=by
 have hne:∀j,j<=w.heap.size->some j≠v.ownBlock:=fun j hj e=>by have:=(b.own.lt j e.symm).1;omega
 have hw:=b.tn.size;have hz:=gG b.bx;have e:∀j,j<=w.heap.size->u'.heap[j]?=u.heap[j]?:=fun j hj=>g.block j (by omega) (hne j hj);refine⟨(e H (by omega)).trans b.at',b.cd.of (e _ (bv6 hc.1)) (e _ (bv6 hc.2)),⟨g.os.trans b.tn.os,g.tape.trans b.tn.tape,g.output.trans b.tn.output,bo6 b.tn.size g.size,fun j hj hn=>(e j (by omega)).trans (b.tn.block j hj hn)⟩,(e _ (bn7 _)).trans b.bx,?_⟩;unfold Js.strs at o ⊢;rw[bv7];exact o
end Ho
namespace Ho
open Bs Js
variable{w w' u u':fV} {H:Nat} {h h':Host}
structure Tx (w u:fV) (H:Nat) (h:Host) (f t:Int) (ld:ByteArray) (op bl:Int) (ts ds:ByteArray) (sl:Value):Prop where
 at':At u H h
 cd:NA u
 tn:PU w u H
 b1:u.heap[w.heap.size]?=some (.cells (rF f t ld) 69 (0,0))
 b2:u.heap[w.heap.size+1]?=some (.cells #[Vb Ve op,Vb Ve bl,.string ts,.string ds,sl] 96 (0,0))
variable{f t op bl:Int} {ld ts ds:ByteArray} {sl:Value}
theorem Tx.below(b:Tx w u H h f t ld op bl ts ds sl)(hb:gm u.heap.size u u'):Tx w u' H h f t ld op bl ts ds sl:=
 ⟨b.at'.below hb,b.cd.below hb,Sd b.tn hb,(hb.block _ (gG b.b1)).trans b.b1,(hb.block _ (gG b.b2)).trans b.b2⟩
theorem Tx.host(b:Tx w u H h f t ld op bl ts ds sl)(hH:H<w.heap.size)(h0:(0:Nat)≠H)(h1:(1:Nat)≠H)(k:At u' H h')(tn:PU u u' H):Tx w u' H h' f t ld op bl ts ds sl:=
 ⟨k,b.cd.of (tn.block _ b.cd.lt.1 h0) (tn.block _ b.cd.lt.2 h1),⟨tn.os.trans b.tn.os,tn.tape.trans b.tn.tape,tn.output.trans b.tn.output,bo6 b.tn.size tn.size,fun j hj hn=>(tn.block j (bo9 hj b.tn.size) hn).trans (b.tn.block j hj hn)⟩,(tn.block _ (gG b.b1) (by omega)).trans b.b1,(tn.block _ (gG b.b2) (by omega)).trans b.b2⟩
theorem Tx.set(b:Tx w u H h f t ld op bl ts ds sl)(hH:H<w.heap.size)(h0:(0:Nat)≠H)(h1:(1:Nat)≠H)(j:Nat)(v:Value)(e:h.cells.setIfInBounds j v=h'.cells):Tx w (u.setCell (a_ H j) v) H h' f t ld op bl ts ds sl:=
 b.host hH h0 h1 (b.at'.set j v e) ⟨rfl,rfl,rfl,by simp[World.setCell],fun k hk hn=>bo0 _ _ _ _ hn⟩
theorem aA2(k:At w H h)(c:NA w):Tx w ((w.alloc (.cells (rF f t ld) 69)).alloc (.cells #[Vb Ve op,Vb Ve bl,.string ts,.string ds,sl] 96)) H h f t ld op bl ts ds sl:=by
 have hb:gm w.heap.size w ((w.alloc (.cells (rF f t ld) 69)).alloc (.cells #[Vb Ve op,Vb Ve bl,.string ts,.string ds,sl] 96)):=b1_.alloc (by simp) _;exact⟨k.below hb,c.below hb,⟨hb.os,hb.tape,hb.output,hb.size,fun j hj _=>hb.block j hj⟩,nA w _ _,jq w _ _⟩
def Host.Wv(h:Host)(bl s:Int):Host:={h with last:=bl,whn:=h.now,sent:=s}
theorem Yb{u:fV}{a b n:Nat}{v:Value}{xs:List Value}(o:u.ownsRow a 9 1 v n xs)(hb:b<=a):u.ownsRow b 9 1 v n xs:=
 ⟨o.1,o.2.imp id (fun⟨g,cap,cur,e1,e2,e3⟩=>⟨g,cap,cur,e1,bo6 hb e2,e3⟩)⟩
end Ho
namespace Ho
open Bs Tf
theorem aP5(s:ByteArray)(k:Nat)(c:UInt8)(hk:k<s.size)(hc:s.data.toList[k]?=some c)(x:Int)(hx:x=k)(u:fV):(Instr.index 9 (.string s) (Vb Vg x)).run Vh u=.ok (Vb Vd c.toNat) u:=by
 subst hx;have h2:(k:Int)<(s.size:Int):=by omega
 have h3:s[k]=c:=by
  have q:s.data[k]?=some c:=by rw[<-br1];exact hc
  have hk':k<s.data.size:=hk;rw[bv2 hk']at q;exact bp4 q
 simp[Instr.index,bw4 bs8,asIntOf,h2,hk,go_sem,h3]
def af0(n:Int)(l:List UInt8):Int:=l.foldl (fun n b=>wrap64 (wrap64 (10*n)+((b.toNat:Int)-48)%256)) n
def Yj(n:Int)(fs:pO)(name:List UInt8):Int:=fs.foldl (fun n f=>if f.1=name then af0 n f.2 else n) n
theorem lH(a:Option Addr)(cap:Nat)(fs:pO)(name:List UInt8)(w:fV)(hA:X9 w a fs)(hl:fs.length<=1000)(hz:∀f ∈ fs,f.2.length<=1000):
  f_ Vh 72 #[.slice a fs.length cap,.string ⟨name.toArray⟩] w fun e w'=>e=.returned (Vb Vg (Yj 0 fs name))/\gm w.heap.size w w':=by
 have HA:=Fe hA;have HZ:=Fe hz;obtain⟨nm,hnm⟩:∃nm:ByteArray,nm=⟨name.toArray⟩:=⟨_,rfl⟩;have HNM:=Fe hnm;rw[<-hnm];clear hA hz hnm;go_enter func72,ntmps72;go_wp2;go_loopw [5,11] (fun v i wr=>∃k:Nat,k<=fs.length/\i=Vb Vg k/\v=Vb Vg (Yj 0 (fs.take k) name)/\Hid (gm w.heap.size w wr)) (fun _ i _=>fs.length-(intOf i).toNat)
 case atStart=>exact⟨0,bp3 _,rfl,rfl,Fe (bn9 _ _)⟩
 obtain⟨k,hk,rfl,rfl,HW⟩:=hrel;rename fV=>wr;have hwz:=HW.size
 by_cases hlt:k<fs.length
 ·obtain⟨ad,rfl,c0,c1⟩:=HA.below HW (bn7 _) k hlt
  have hki:(k:Int)<(fs.length:Int):=by omega
  obtain⟨s1,hs1⟩:∃s:ByteArray,s=⟨fs[k].1.toArray⟩:=⟨_,rfl⟩;obtain⟨s2,hs2⟩:∃s:ByteArray,s=⟨fs[k].2.toArray⟩:=⟨_,rfl⟩;rw[<-hs1]at c0;rw[<-hs2]at c1;have hstep:Yj 0 (fs.take (k+1)) name=if fs[k].1=name then af0 (Yj 0 (fs.take k) name) fs[k].2 else Yj 0 (fs.take k) name:=by
   rw[bo8 hlt];unfold Yj;rw[List.foldl_append];rfl
  obtain⟨x,hx⟩:=ex_ (Yj 0 (fs.take k) name);rw[<-hx]at hstep ⊢;have h2l:s2.data.toList=fs[k].2:=by rw[hs2]
  have h2z:s2.size<=1000:=by
   have:=jc s2;rw[h2l]at this;have:=HZ fs[k] (bs4 hlt);omega
  rw[<-h2l]at hstep
  by_cases e:fs[k].1=name
  ·have q:(s1.toList==nm.toList)=true:=by rw[gB HNM,hs1,e];simp
   rw[bp0 e]at hstep;have HST:=Fe hstep;clear e hstep hs1 hs2 hx h2l;obtain⟨X,hX⟩:=ex_ (wr.alloc (.cells #[.string s1,.string s2] 146));have x1:X.cell? (a_ wr.heap.size 1)=some (.string s2):=by rw[hX];exact bn0 _ _ 1 _ _ _ (bn3 wr _)
   have HX:Hid (gm w.heap.size w X):=Fe (by rw[hX];exact HW.alloc hwz _);go_wp2;rw[<-hX];clear hX;go_loopw [5,22] (fun v i wq=>∃j:Nat,j<=s2.size/\i=Vb Vg j/\v=Vb Vg (af0 x (s2.data.toList.take j))/\wq=X) (fun _ i _=>s2.size-(intOf i).toNat)
   case atStart=>exact⟨0,bp3 _,rfl,rfl,rfl⟩
   obtain⟨j,hj,rfl,rfl,rfl⟩:=hrel
   by_cases hjl:j<s2.size
   ·have hji:(j:Int)<(s2.size:Int):=by omega
    have hjd:j<s2.data.toList.length:=by rw[jc];exact hjl
    obtain⟨bb,hbb⟩:=ex_ (s2.data.toList[j]);have ix:∀u,(Instr.index 9 (.string s2) (Vb Vg j)).run Vh u=.ok (Vb Vd bb.toNat) u:=fun u=>aP5 s2 j bb hjl (by rw[bq7 hjd,hbb]) j rfl u;have hst2:af0 x (s2.data.toList.take (j+1))=wrap64 (wrap64 (10*af0 x (s2.data.toList.take j))+((bb.toNat:Int)-48)%256):=by
     rw[bo8 hjd,<-hbb];unfold af0;rw[List.foldl_append];rfl
    obtain⟨y,hy⟩:=ex_ (af0 x (s2.data.toList.take j));rw[<-hy]at hst2 ⊢;have HS2:=Fe hst2;clear hbb hjd hst2 hy;go_wp2;exact⟨⟨j+1,by omega,by go_num,by rw[gB HS2],trivial⟩,by simp[intOf];omega⟩
   have hji: ¬(j:Int)<(s2.size:Int):=by omega
   have HE2:Hid (af0 x (s2.data.toList.take j)=Yj 0 (fs.take (k+1)) name):=Fe (by
    rw[gB HST,bt6 (by rw[jc];omega)])
   go_wp2;exact⟨⟨k+1,by omega,by go_num,by rw[gB HE2],HX⟩,by simp[intOf];omega⟩
  have q:(s1.toList==nm.toList)=false:=by
   rw[gB HNM,hs1];rw[bq0,bq0];simpa using e
  rw[bo4 e]at hstep;have HST:=Fe hstep;clear e hstep hs1 hs2 hx h2l;go_wp2;go_roundw
  case rel=>exact⟨k+1,by omega,by go_num,by rw[gB HST],Fe (HW.alloc hwz _)⟩
  simp[intOf];omega
 have e:k=fs.length:=by omega
 have HE:Hid (Yj 0 (fs.take k) name=Yj 0 fs name):=Fe (by rw[e,br0]);have hki: ¬(k:Int)<(fs.length:Int):=by omega
 clear e;go_wp2;go_ret;exact⟨by rw[gB HE];rfl,HW⟩
end Ho
namespace Ho
open Bs Js
def dg(n:Nat):List UInt8:=if n<10 then [UInt8.ofNat (48+n)]else dg (n/10)++ [UInt8.ofNat (48+n%10)]
termination_by n
decreasing_by omega
theorem aR7(x:Int)(h:0<=x/\x<=9223372036854775807):IntKind.i64.wrap x=x:=by
 rw[bB0];omega
theorem ae5(n:Nat):(dg n).length<=n+1:=by
 induction n using Nat.strongRecOn with
 |_ n ih=>
  rw[dg]
  split
  ·simp
  have:=ih (n/10) (by omega);rw[bn6,List.length_singleton];omega
theorem cell_below{u u':fV}{g j:Nat}{v:Value}(h:u.cell? (a_ g j)=some v)(hb:gm u.heap.size u u'):u'.cell? (a_ g j)=some v:=by
 have hg:g<u.heap.size:=Dh.CP h;rw[<-h];simp only[World.cell?];rw[hb.block g hg]
theorem Zf(x:Nat)(hx:x<256)(u:fV)(g:Nat)(h:u.cell? (a_ g 0)=some (Vb Vd (x:Int))):(convert 73 9 (.slice (some (a_ g 0)) 1 1)).run Vh u=.ok (.string ⟨#[UInt8.ofNat x]⟩) u:=
 bv8 (P:=Vh) u 73 9 5 (a_ g 0) 1 [UInt8.ofNat x] br3 bv4 bs8 (fun j hj=>by
  have hj0:j=0:=by simp at hj;omega
  subst hj0;rw[show(((a_ g 0):Addr).add 0)=(a_ g 0)from rfl,h];have:((UInt8.ofNat x).toNat:Int)=x:=by simp;omega
  exact by5 (fun z=>some (Vb Vd z)) this.symm)
theorem af2(n:Nat)(hn:n<=1000000000)(w:fV)(hA: ¬n<10->∀u,f_ Vh 75 #[Vb Vg ((n/10:Nat):Int)] u fun e w'=>e=.returned (.string ⟨(dg (n/10)).toArray⟩)/\gm u.heap.size u w'):
  f_ Vh 75 #[Vb Vg n] w fun e w'=>e=.returned (.string ⟨(dg n).toArray⟩)/\gm w.heap.size w w':=by
 by_cases h10:n<10
 ·have hni:(n:Int)<10:=by omega
  have hcv0:=Zf (48+n) (by omega) (w.alloc (.cells #[Vb Vd (48+(n:Int))] 5)) w.heap.size (by
   rw[bn0 _ _ 0 _ _ _ (bn3 w _)]
   exact by5 (fun z=>some (Vb Vd z)) (by omega))
  obtain⟨bt,hbt⟩:=ex_ (UInt8.ofNat (48+n));rw[<-hbt]at hcv0;have HDG:Hid (dg n=[bt]):=Fe (by rw[dg,bp0 h10,hbt]);have hc8:(48+(n:Int))%256=48+(n:Int):=by omega
  clear hbt hA;go_enter func75,ntmps75;go_wp2;go_ret;refine⟨?_,(bn9 _ _).alloc (bn7 _) _⟩;rw[gB HDG];rfl
 have hni: ¬(n:Int)<10:=by omega
 obtain⟨q,hqn⟩:∃q:Nat,q=n/10:=⟨_,rfl⟩;have HA0:=hA h10;rw[<-hqn]at HA0;obtain⟨sA,hsA⟩:∃sA:ByteArray,sA=⟨(dg q).toArray⟩:=⟨_,rfl⟩;rw[<-hsA]at HA0;have HA:=Fe HA0;obtain⟨bt,hbt⟩:=ex_ (UInt8.ofNat (48+n%10));have HCV:Hid (∀(u:fV) (g:Nat),u.cell? (a_ g 0)=some (Vb Vd (48+(n:Int)%10))->(convert 73 9 (.slice (some (a_ g 0)) 1 1)).run Vh u=.ok (.string ⟨#[bt]⟩) u):=Fe (fun u g h=>by
  rw[hbt]
  exact Zf (48+n%10) (by omega) u g (by rw[h];exact by5 (fun z=>some (Vb Vd z)) (by omega)))
 have HEQ:Hid (Ending.returned (.string (sA++(⟨#[bt]⟩:ByteArray)))=Ending.returned (.string ⟨(dg n).toArray⟩)):=Fe (by
  rw[dg,bo4 h10,<-hqn,hsA,hbt]
  congr 2)
 have hsz:sA.size<=9223372036854775806:=by
  rw[hsA];show(dg q).toArray.size<=_;rw[bt3];have:=ae5 q;omega
 have hw1:IntKind.i64.wrap (q:Int)=(q:Int):=aR7 _ (by omega);have ht:(n:Int).tmod 10=(n:Int)%10:=bz4 (by omega);have hw2:IntKind.i64.wrap (48+(n:Int)%10)=48+(n:Int)%10:=aR7 _ (by omega);have hw3:IntKind.u8.wrap (48+(n:Int)%10)=48+(n:Int)%10:=by
  have:IntKind.u8.wrap (48+(n:Int)%10)=(48+(n:Int)%10)%256:=rfl;rw[this];omega
 have hq:(n:Int)/10=(q:Int):=by omega
 have hc8:(48+(n:Int)%10)%256=48+(n:Int)%10:=by omega
 clear hA h10 HA0 hqn hsA hbt;go_enter func75,ntmps75;go_wp2_with fail;refine wp_region_held_drew (S:=fun _=>True) (by kernel_rfl) trivial (fun hHeld=> ?_);have HB:Hid (gm w.heap.size w w.drew):=Fe ((bn9 _ _).drew);refine tkH_ (i:=0) (v:=(Vb Vg n)) rfl (by kernel_rfl) (fun _ _ _ h=>h) (bo1 ⟨by rfl,?_⟩) hHeld ?_
 ·(intro wz hSz;go_simp)
 try simp only[Act.put,bn4,bn2,bn1,bm7,bm8,bm9]
 refine tkH_ (i:=1) (v:=(Vb Vg (q:Int))) rfl (by kernel_rfl) (fun _ _ _ h=>h) (bo1 ⟨by rfl,?_⟩) hHeld ?_
 ·(intro wz hSz;(have:=hq;go_simp))
 try simp only[Act.put,bn4,bn2,bn1,bm7,bm8,bm9]
 refine tkH_ (i:=3) (v:=(Vb Vg n)) rfl (by kernel_rfl) (fun _ _ _ h=>h) (bo1 ⟨by rfl,?_⟩) hHeld ?_
 ·(intro wz hSz;go_simp)
 try simp only[Act.put,bn4,bn2,bn1,bm7,bm8,bm9]
 refine tkH_ (i:=4) (v:=(Vb Vg ((n:Int)%10))) rfl (by kernel_rfl) (fun _ _ _ h=>h) (bo1 ⟨by rfl,?_⟩) hHeld ?_
 ·(intro wz hSz;go_simp)
 try simp only[Act.put,bn4,bn2,bn1,bm7,bm8,bm9]
 refine tkH_ (i:=5) (v:=(Vb Vg (48+(n:Int)%10))) rfl (by kernel_rfl) (fun _ _ _ h=>h) (bo1 ⟨by rfl,?_⟩) hHeld ?_
 ·(intro wz hSz;go_simp)
 try simp only[Act.put,bn4,bn2,bn1,bm7,bm8,bm9]
 refine tkH_ (i:=6) (v:=(Vb Vd (48+(n:Int)%10))) rfl (by kernel_rfl) (fun _ _ _ h=>h) (bo1 ⟨by rfl,?_⟩) hHeld ?_
 ·(intro wz hSz;(have:=hc8;go_simp))
 try simp only[Act.put,bn4,bn2,bn1,bm7,bm8,bm9]
 refine wpAnyH_ready (rs:=[2,7]) (by kernel_rfl) (by simp) ?_;refine AllReadyH.cons rfl (fun K hK=> ?_) (AllReadyH.cons rfl (fun K hK=> ?_) AllReadyH.nil)
 ·go_simp
  refine on_ (HA _) fun u2 hb2=>?_;have HBx2:Hid (gm w.heap.size w u2):=Fe (HB.trans (hb2.mono HB.size));clear hb2;go_wp2_with fail;clear hHeld;refine hK.out _ _ ?_ (fun hHeld=> ?_)
  ·exact trivial
  clear hK K;try simp only[Act.put,bn4,bn2,bn1,bm7,bm8,bm9]
  refine wpAnyH_ready (rs:=[7]) (by kernel_rfl) (by simp) ?_;refine AllReadyH.cons rfl (fun K hK=> ?_) AllReadyH.nil;go_simp
  have HBx2x7:Hid (gm w.heap.size w ((u2).alloc (.cells #[Vb Vd (48+(n:Int)%10)] 5))):=Fe (HBx2.alloc HBx2.size _);have HG:Hid (World.cell? ((u2).alloc (.cells #[Vb Vd (48+(n:Int)%10)] 5)) (a_ ((u2).heap.size) 0)=some (Vb Vd (48+(n:Int)%10))):=Fe (bn0 _ _ 0 _ _ _ (bn3 _ _));clear hHeld;refine hK.out _ _ ?_ (fun hHeld=> ?_)
  ·exact trivial
  clear hK K;try simp only[Act.put,bn4,bn2,bn1,bm7,bm8,bm9]
  refine Wh (S':=fun u=>u.cell? (a_ ((u2).heap.size) 0)=some (Vb Vd (48+(n:Int)%10))) (fun _ _=>trivial) _ _ _ _ ?_;replace hHeld:=gB HG
  refine tkH_ (i:=8) (v:=(.string ⟨#[bt]⟩)) rfl (by kernel_rfl) (fun _ _ _ h=>h) (bo1 ⟨by rfl,?_⟩) hHeld ?_
  ·(intro wz hSz;(have hcv:=HCV wz _ hSz;go_simp))
  try simp only[Act.put,bn4,bn2,bn1,bm7,bm8,bm9]
  refine tkH_ (i:=9) (v:=(.string (sA++⟨#[bt]⟩))) rfl (by kernel_rfl) (fun _ _ _ h=>h) (bo1 ⟨by rfl,?_⟩) hHeld ?_
  ·(intro wz hSz;go_simp)
  try simp only[Act.put,bn4,bn2,bn1,bm7,bm8,bm9]
  refine tkH_ (i:=10) (v:=(.string (sA++⟨#[bt]⟩))) rfl (by kernel_rfl) (fun _ _ _ h=>h) (bo1 ⟨by rfl,?_⟩) hHeld ?_
  ·(intro wz hSz;go_simp)
  try simp only[Act.put,bn4,bn2,bn1,bm7,bm8,bm9]
  refine bw0 (by kernel_rfl) ?_ _;go_wp2;go_ret;refine⟨?_,HBx2x7⟩;rw[<-gB HEQ];rfl
 go_simp
 have HBx7:Hid (gm w.heap.size w ((w.drew).alloc (.cells #[Vb Vd (48+(n:Int)%10)] 5))):=Fe (HB.alloc HB.size _);have HG:Hid (World.cell? ((w.drew).alloc (.cells #[Vb Vd (48+(n:Int)%10)] 5)) (a_ ((w.drew).heap.size) 0)=some (Vb Vd (48+(n:Int)%10))):=Fe (bn0 _ _ 0 _ _ _ (bn3 _ _));clear hHeld;refine hK.out _ _ ?_ (fun hHeld=> ?_)
 ·exact trivial
 clear hK K;try simp only[Act.put,bn4,bn2,bn1,bm7,bm8,bm9]
 refine Wh (S':=fun u=>u.cell? (a_ ((w).heap.size) 0)=some (Vb Vd (48+(n:Int)%10))) (fun _ _=>trivial) _ _ _ _ ?_;replace hHeld:=gB HG
 refine tkH_ (i:=8) (v:=(.string ⟨#[bt]⟩)) rfl (by kernel_rfl) (fun _ _ _ h=>h) (bo1 ⟨by rfl,?_⟩) hHeld ?_
 ·(intro wz hSz;(have hcv:=HCV wz _ hSz;go_simp))
 try simp only[Act.put,bn4,bn2,bn1,bm7,bm8,bm9]
 refine wpAnyH_ready (rs:=[2]) (by kernel_rfl) (by simp) ?_;refine AllReadyH.cons rfl (fun K hK=> ?_) AllReadyH.nil;go_simp
 refine on_ (HA _) fun u2 hb2=>?_;have HBx7x2:Hid (gm w.heap.size w u2):=Fe (HBx7.trans (hb2.mono HBx7.size));have HG:Hid (u2.cell? (a_ ((w).heap.size) 0)=some (Vb Vd (48+(n:Int)%10))):=Fe (cell_below HG hb2);clear hb2;go_wp2_with fail;clear hHeld;refine hK.out _ _ ?_ (fun hHeld=> ?_)
 ·exact HG
 clear hK K;try simp only[Act.put,bn4,bn2,bn1,bm7,bm8,bm9]
 refine tkH_ (i:=9) (v:=(.string (sA++⟨#[bt]⟩))) rfl (by kernel_rfl) (fun _ _ _ h=>h) (bo1 ⟨by rfl,?_⟩) hHeld ?_
 ·(intro wz hSz;go_simp)
 try simp only[Act.put,bn4,bn2,bn1,bm7,bm8,bm9]
 refine tkH_ (i:=10) (v:=(.string (sA++⟨#[bt]⟩))) rfl (by kernel_rfl) (fun _ _ _ h=>h) (bo1 ⟨by rfl,?_⟩) hHeld ?_
 ·(intro wz hSz;go_simp)
 try simp only[Act.put,bn4,bn2,bn1,bm7,bm8,bm9]
 refine bw0 (by kernel_rfl) ?_ _;go_wp2;go_ret;refine⟨?_,HBx7x2⟩;rw[<-gB HEQ];rfl
theorem ai5(n:Nat)(hn:n<=1000000000)(w:fV):f_ Vh 75 #[Vb Vg n] w fun e w'=>e=.returned (.string ⟨(dg n).toArray⟩)/\gm w.heap.size w w':=by
 induction n using Nat.strongRecOn generalizing w with
 |_ n ih=>exact af2 n hn w (fun h u=>ih (n/10) (by omega) (by omega) u)
end Ho
namespace Ho
open Bs Js
variable{w w' u u':fV} {H:Nat} {h h':Host}
def VC:List UInt8:=[116,115,105,122,101]
def Gp:List UInt8:=[98,108,107,115,105,122,101]
def I1:List UInt8:=[119,105,110,100,111,119,115,105,122,101]
theorem add_block(ad:Addr)(k:Nat):(ad.add k).block=ad.block:=by unfold Addr.add;split<;>rfl
theorem ag6{fs:Tf.pO}{sa:Option Addr}(hA:Tf.X9 w sa fs)(t:PU w u H)(hne:∀ad,sa=some ad->ad.block≠H):Tf.X9 u sa fs:=fun i hi=>by
 obtain⟨ad,e,c0,c1⟩:=hA i hi;have hl:=Tf.CP c0;have hn:(ad.add (i*2)).block≠H:=by rw[add_block];exact hne ad e
 have hb:=t.block _ hl hn;exact⟨ad,e,by rw[bo7 hb];exact c0,by rw[bo7 (w:=w) (a:=(a_ ((ad.add (i*2)).block) ((ad.add (i*2)).off+1))) hb];exact c1⟩
theorem Dm(u:fV)(fr:ByteArray){b:Nat}(hb:b<=u.heap.size):(u.alloc (.cells #[.string fr] 9)).ownsRow b 9 1 (.slice (some (a_ u.heap.size 0)) 1 1) 1 [.string fr]:=
 ⟨rfl,bo3 ⟨u.heap.size,1,#[.string fr],rfl,hb,bn3 u _,bn7 _,by decide,rfl,rfl⟩⟩
theorem aE2(m:Tf.RH):(Tf.U7 m).length<=262144:=by
 unfold Tf.U7
 split
 ·rename_i h
  unfold Tf.UU at h
  split at h
  ·cases h
  split at h
  ·cases h
  split at h
  ·cases h
  omega
 simp
def Host.asked(h:Host):Host:={h with port:=IntKind.u16.wrap (h.port+1),sent:=0,last:= -1}
def Host.Wn(h:Host)(b n:Int):Host:={h.asked with block:=b,window:=n}
theorem Ye(id fr ta fp tp:Int)(ld:ByteArray):(Ip.Db id 64 17 fr ta (Ud.sH fp tp fr ta ld)).size<=1500/\(Ud.sH fp tp fr ta ld).size<=1480:=by
 have hu8:(Ud.sH fp tp fr ta ld).size<=1480:=WI _ _ _ _ _;refine⟨?_,hu8⟩;rw[Zg _ _ _ _ _ _ (by decide) hu8,strSize,Ip.Ls,bn6,Ip.jY,jc];omega
theorem Rm{u u':fV}{g:Nat}{o:Obj}(k:u.heap[g]?=some o)(hb:gm u.heap.size u u'):u'.heap[g]?=some o:=(hb.block g (gG k)).trans k
theorem ac0{fs:Tf.pO}{sa:Option Addr}{sc b:Nat}(o:u.ownsRow b 146 2 (.slice sa fs.length sc) fs.length (Tf.Rf fs)):Tf.X9 u sa fs:=by
 rcases o.2 with⟨h1,h2⟩|⟨g,cap,cur,e1,e2⟩
 ·intro i hi;omega
 injection e1 with e1 _ _
 subst e1;exact Tf.X9.bf1 (o.cells (g:=g) rfl)
theorem aC0(k:At w H h)(c:NA w)(t0 t1 t2 t3 t4 t5:UInt8)(id fr ta fp:Int)(ld:ByteArray)(hid:0<=id/\id<=65535)(hfr:0<=fr/\fr<=4294967295)(hta:0<=ta/\ta<=4294967295)(hfp:0<=fp/\fp<=65535)(hld:ld.size<=1472)(Z:Ending->fV->Prop)
  (HD:∀u,At u H h->NA u->gm w.heap.size w u->f_ Vh 40 #[p_ H,.agg #[Vb Ve fp,Vb Ve 67,.string ld]] u fun ee w'=>∃v1 v2,ee=.returned (.tuple #[v1,v2])/\Z ee w'):
  f_ Vh 23 #[p_ H,.string (og.ni [t0,t1,t2,t3,t4,t5,2,0,0,0,0,42] 2048 (Ip.Db id 64 17 fr ta (Ud.sH fp 67 fr ta ld)))] w Z:=by
 obtain⟨z1,z2⟩:=Ye id fr ta fp 67 ld;have HE:=Fe (Y4 t0 t1 t2 t3 t4 t5 2 0 0 0 0 42 2048 _ (by decide) (by decide) z1);have HI:=Fe (aN8 id 64 17 fr ta _ hid (by decide) (by decide) hfr hta z2);have HU:=Fe (aG1 fp 67 fr ta ld hfp (by decide) hfr hta hld);have hsz:=(Xj t0 t1 t2 t3 t4 t5 2 0 0 0 0 42 2048 _ (by decide) z1).1;have hmq:∀u,(Op.equalIn 10000 30 (.agg #[Vb Vd 2,Vb Vd 0,Vb Vd 0,Vb Vd 0,Vb Vd 0,Vb Vd 42]) (.agg #[Vb Vd 2,Vb Vd 0,Vb Vd 0,Vb Vd 0,Vb Vd 0,Vb Vd 42])).run Vh u=.ok true u:=fun u=>Sq.Yx 9998 2 0 0 0 0 42 u;generalize og.ni [t0,t1,t2,t3,t4,t5,2,0,0,0,0,42] 2048 (Ip.Db id 64 17 fr ta (Ud.sH fp 67 fr ta ld))=sE at HE hsz ⊢;generalize WR (Ip.Db id 64 17 fr ta (Ud.sH fp 67 fr ta ld))=sI at HE HI;generalize Ud.sH fp 67 fr ta ld=sU at HI HU;have hs60: ¬(sE.size:Int)<60:=by omega
 have HK:=Fe k;have HC:=Fe c;have HDD:=Fe HD;clear k c HD z1 z2 hsz;go_enter func23,ntmps23;go_wp2_with fail;refine on_ (HE _) fun u1 hb1=>?_;have HC1:=Fe (HC.below hb1);obtain⟨g0,g1,g2,g3,g4,g5,_⟩:=gB HC1;have hc0:=HC1.lt.1;have hc1:(0:Nat)≠u1.heap.size:=bo5 hc0;have HB1:=Fe hb1;clear hb1 HE;go_wp2_with fail;obtain⟨eR,heR⟩:∃eR:Array Value,eR=#[Vb Vd t0.toNat,Vb Vd t1.toNat,Vb Vd t2.toNat,Vb Vd t3.toNat,Vb Vd t4.toNat,Vb Vd t5.toNat,Vb Vd 2,Vb Vd 0,Vb Vd 0,Vb Vd 0,Vb Vd 0,Vb Vd 42,Vb Ve 2048,.string sI]:=⟨_,rfl⟩;rw[<-heR];have HER:Hid (eR[12]?=some (Vb Ve 2048)):=Fe (by rw[heR];rfl);have HX1:Hid (gm w.heap.size w (u1.alloc (.cells eR 55))/\(u1.alloc (.cells eR 55)).heap[u1.heap.size]?=some (.cells eR 55 (0,0))):=Fe ⟨HB1.alloc HB1.size _,bn3 u1 _⟩;clear g0 g1 g2 g3 g4 g5 hc0 hc1 hmq heR HC1;refine on_ (HI _) fun u2 hb2=>?_;have HX2:Hid (gm w.heap.size w u2/\u2.heap[u1.heap.size]?=some (.cells eR 55 (0,0))):=Fe ⟨HX1.1.trans (hb2.mono HX1.1.size),Rm HX1.2 hb2⟩;clear hb2 HX1 HI HB1;obtain⟨d1,hd1⟩:=ex_ u1.heap.size;rw[<-hd1]at HX2 ⊢;clear hd1;go_wp2_with fail;have HX3:Hid (gm w.heap.size w (u2.alloc (.cells #[Vb Ve id,Vb Vd 64,Vb Vd 17,Vb Vf fr,Vb Vf ta,.string sU] 59))/\(u2.alloc (.cells #[Vb Ve id,Vb Vd 64,Vb Vd 17,Vb Vf fr,Vb Vf ta,.string sU] 59)).heap[d1]?=some (.cells eR 55 (0,0))/\(u2.alloc (.cells #[Vb Ve id,Vb Vd 64,Vb Vd 17,Vb Vf fr,Vb Vf ta,.string sU] 59)).heap[u2.heap.size]?=some (.cells #[Vb Ve id,Vb Vd 64,Vb Vd 17,Vb Vf fr,Vb Vf ta,.string sU] 59 (0,0))):=Fe ⟨HX2.1.alloc HX2.1.size _,Rm HX2.2 b1_,bn3 u2 _⟩;refine on_ (HU _) fun u3 hb3=>?_;obtain⟨d2,hd2⟩:=ex_ u2.heap.size;have HX4:Hid (gm w.heap.size w u3/\u3.heap[d1]?=some (.cells eR 55 (0,0))/\u3.heap[d2]?=some (.cells #[Vb Ve id,Vb Vd 64,Vb Vd 17,Vb Vf fr,Vb Vf ta,.string sU] 59 (0,0))):=Fe ⟨HX3.1.trans (hb3.mono HX3.1.size),Rm HX3.2.1 hb3,by rw[hd2];exact Rm HX3.2.2 hb3⟩;rw[<-hd2];clear hb3 HX3 HU HX2 hd2;have e12:u3.cell? (a_ d1 12)=some (Vb Ve 2048):=by rw[bn0 u3 _ 12 _ _ _ HX4.2.1];exact HER
 have i2:u3.cell? (a_ d2 2)=some (Vb Vd 17):=bn0 u3 _ 2 _ _ _ HX4.2.2;have n1:=gG HX4.2.1;have n2:=gG HX4.2.2;have n3:d1≠u3.heap.size:=bo5 n1;have n4:d2≠u3.heap.size:=bo5 n2;have HX5:Hid (gm w.heap.size w (u3.alloc (.cells #[Vb Ve fp,Vb Ve 67,.string ld] 69))):=Fe (HX4.1.alloc HX4.1.size _);go_wp2_with fail;refine(HDD _ (HK.below HX5) (HC.below HX5) HX5).mono ?_;rintro ee u4 ⟨v1,v2,rfl,hz⟩;have HZ:=Fe hz;clear hz HDD HX5 HX4;go_wp2;exact HZ
theorem Yz(op fi ti:Int)(a b c d e f a' b' c' d' e' f':UInt8):(WM.vE op [a,b,c,d,e,f] fi [a',b',c',d',e',f'] ti).size<=1500:=by
 unfold WM.vE
 split
 ·rw[strSize]
  simp[WM.GJ,iy,g_,iY]
 show(0:Nat)<=1500;omega
theorem au6(k:At w H h)(c:NA w):
  f_ Vh 23 #[p_ H,.string (og.ni [255,255,255,255,255,255,2,0,0,0,0,42] 2054 (WM.vE 1 [2,0,0,0,0,42] 0 [0,0,0,0,0,0] 167772215))] w fun ee w'=>ee=.returned (.tuple #[.slice none 0 0,.bool true])/\At w' H h/\PU w w' H:=by
 have z1:(WM.vE 1 [2,0,0,0,0,42] 0 [0,0,0,0,0,0] 167772215).size<=1500:=Yz _ _ _ _ _ _ _ _ _ _ _ _ _ _ _;have HE:=Fe (Y4 255 255 255 255 255 255 2 0 0 0 0 42 2054 _ (by decide) (by decide) z1);have HI:=Fe (aG3 1 0 167772215 2 0 0 0 0 42 0 0 0 0 0 0 (bo1 rfl) (by decide) (by decide));have hsz:=(Xj 255 255 255 255 255 255 2 0 0 0 0 42 2054 _ (by decide) z1).1;have hmq:∀u,(Op.equalIn 10000 30 (.agg (rS 2 0 0 0 0 42)) (.agg (rS 2 0 0 0 0 42))).run Vh u=.ok true u:=fun u=>Sq.Yx 9998 2 0 0 0 0 42 u;generalize og.ni [255,255,255,255,255,255,2,0,0,0,0,42] 2054 (WM.vE 1 [2,0,0,0,0,42] 0 [0,0,0,0,0,0] 167772215)=sE at HE hsz ⊢;generalize WR (WM.vE 1 [2,0,0,0,0,42] 0 [0,0,0,0,0,0] 167772215)=sI at HE HI;have hs60: ¬(sE.size:Int)<60:=by omega
 have HK:=Fe k;have HC:=Fe c;clear k c z1 hsz;go_enter func23,ntmps23;go_wp2_with fail;refine on_ (HE _) fun u1 hb1=>?_;have HC1:=Fe (HC.below hb1);obtain⟨g0,g1,g2,g3,g4,g5,_⟩:=gB HC1;have hc0:=HC1.lt.1;have hc1:(0:Nat)≠u1.heap.size:=bo5 hc0;have HB1:=Fe hb1;clear hb1 HE;go_wp2_with fail;clear g0 g1 g2 g3 g4 g5 hc0 hc1;refine on_ (HI _) fun u2 hb2=>?_;have HB2:Hid (gm w.heap.size w u2):=Fe ((HB1.alloc HB1.size _).trans (hb2.mono (HB1.alloc HB1.size _).size));have HC2:=Fe (HC.below HB2);obtain⟨g0,g1,g2,g3,g4,g5,k0,k1,k2,k3,k4,k5⟩:=gB HC2;have hc0:=HC2.lt.1;have hc1:(0:Nat)≠u2.heap.size:=bo5 hc0;have hc2:=HC2.lt.2;have hc3:(1:Nat)≠u2.heap.size:=bo5 hc2;clear hb2 HB1 HI HC1;obtain⟨X,hX⟩:=ex_ (u2.alloc (.cells (rE 1 2 0 0 0 0 42 0 0 0 0 0 0 0 167772215) 87));obtain⟨d2,hd2⟩:=ex_ u2.heap.size;have HX:Hid (gm w.heap.size w X/\X.heap[d2]?=some (.cells (rE 1 2 0 0 0 0 42 0 0 0 0 0 0 0 167772215) 87 (0,0))):=Fe (by rw[hX,hd2];exact⟨HB2.alloc HB2.size _,bn3 u2 _⟩);go_wp2_with fail;rw[<-hX,<-hd2];have y7:X.cell? (a_ d2 7)=some (Vb Vf 0):=bn0 X _ 7 _ _ _ HX.2;clear hX hd2 g0 g1 g2 g3 g4 g5 k0 k1 k2 k3 k4 k5 hc0 hc1 hc2 hc3;go_quiet (fail);go_wp2;go_ret2;have hbw:=below_drewN HX.1 nq;exact⟨rfl,HK.below hbw,⟨hbw.os,hbw.tape,hbw.output,hbw.size,fun j hj _=>hbw.block j hj⟩⟩
theorem aD4(k:At w H h)(c:NA w):
  f_ Vh 23 #[p_ H,.string (og.ni [255,255,255,255,255,255,2,0,0,0,0,42] 2054 (WM.vE 1 [2,0,0,0,0,42] 167772215 [0,0,0,0,0,0] 167772161))] w fun ee w'=>∃g,ee=.returned (.tuple #[.slice (some (a_ g 0)) 1 1,.bool true])/\w'.ownsRow w.heap.size 9 1 (.slice (some (a_ g 0)) 1 1) 1 [.string (og.ni [2,0,0,0,0,42,2,0,0,0,0,7] 2054 (WM.vE 2 [2,0,0,0,0,7] 167772161 [2,0,0,0,0,42] 167772215))]/\At w' H h/\PU w w' H:=by
 have z1:(WM.vE 1 [2,0,0,0,0,42] 167772215 [0,0,0,0,0,0] 167772161).size<=1500:=Yz _ _ _ _ _ _ _ _ _ _ _ _ _ _ _;have HE:=Fe (Y4 255 255 255 255 255 255 2 0 0 0 0 42 2054 _ (by decide) (by decide) z1);have HI:=Fe (aG3 1 167772215 167772161 2 0 0 0 0 42 0 0 0 0 0 0 (bo1 rfl) (by decide) (by decide));have hsz:=(Xj 255 255 255 255 255 255 2 0 0 0 0 42 2054 _ (by decide) z1).1;have hmq:∀u,(Op.equalIn 10000 30 (.agg (rS 2 0 0 0 0 42)) (.agg (rS 2 0 0 0 0 42))).run Vh u=.ok true u:=fun u=>Sq.Yx 9998 2 0 0 0 0 42 u;generalize og.ni [255,255,255,255,255,255,2,0,0,0,0,42] 2054 (WM.vE 1 [2,0,0,0,0,42] 167772215 [0,0,0,0,0,0] 167772161)=sE at HE hsz ⊢;generalize WR (WM.vE 1 [2,0,0,0,0,42] 167772215 [0,0,0,0,0,0] 167772161)=sI at HE HI;have hs60: ¬(sE.size:Int)<60:=by omega
 have HK:=Fe k;have HC:=Fe c;clear k c z1 hsz;obtain⟨fr,hfr⟩:=ex_ (og.ni [2,0,0,0,0,42,2,0,0,0,0,7] 2054 (WM.vE 2 [2,0,0,0,0,7] 167772161 [2,0,0,0,0,42] 167772215));obtain⟨ar,har⟩:=ex_ (WM.vE 2 [2,0,0,0,0,7] 167772161 [2,0,0,0,0,42] 167772215);have HWA:Hid (∀u,f_ Vh 38 #[.agg (rE 2 2 0 0 0 0 7 167772161 2 0 0 0 0 42 167772215)] u fun e w'=>(∃k,e=.returned (.tuple #[.string ar,Vb Vg k]))/\gm u.heap.size u w'):=Fe (fun u=>by
  rw[har]
  exact(WM.Wj 2 2 0 0 0 0 7 167772161 2 0 0 0 0 42 167772215 u (by decide) (by decide) (by decide) (by decide) (by decide) (by decide)).mono (fun e w' h=>⟨⟨_,h.1⟩,h.2⟩))
 have HWE:Hid (∀u,f_ Vh 39 #[.agg (rI 2 0 0 0 0 42 2 0 0 0 0 7 2054 ar)] u fun e w'=>(∃k,e=.returned (.tuple #[.string fr,Vb Vg k]))/\gm u.heap.size u w'):=Fe (fun u=>by
  rw[hfr,<-har]
  refine on_ (og.Wj 2 0 0 0 0 42 2 0 0 0 0 7 2054 ar u (by decide) (by decide) (by rw[har];exact bo6 (Yz _ _ _ _ _ _ _ _ _ _ _ _ _ _ _) (by decide))) fun w' hb=>?_
  exact⟨⟨_,rfl⟩,hb⟩)
 have HFR:=Fe hfr;clear hfr har;go_enter func23,ntmps23;go_wp2_with fail;refine on_ (HE _) fun u1 hb1=>?_;have HC1:=Fe (HC.below hb1);obtain⟨g0,g1,g2,g3,g4,g5,_⟩:=gB HC1;have hc0:=HC1.lt.1;have hc1:(0:Nat)≠u1.heap.size:=bo5 hc0;have HB1:=Fe hb1;clear hb1 HE;go_wp2_with fail;clear g0 g1 g2 g3 g4 g5 hc0 hc1;refine on_ (HI _) fun u2 hb2=>?_;have HB2:Hid (gm w.heap.size w u2):=Fe ((HB1.alloc HB1.size _).trans (hb2.mono (HB1.alloc HB1.size _).size));have HC2:=Fe (HC.below HB2);obtain⟨g0,g1,g2,g3,g4,g5,k0,k1,k2,k3,k4,k5⟩:=gB HC2;have hc0:=HC2.lt.1;have hc1:(0:Nat)≠u2.heap.size:=bo5 hc0;have hc2:=HC2.lt.2;have hc3:(1:Nat)≠u2.heap.size:=bo5 hc2;clear hb2 HB1 HI HC1;obtain⟨X,hX⟩:=ex_ (u2.alloc (.cells (rE 1 2 0 0 0 0 42 167772215 0 0 0 0 0 0 167772161) 87));obtain⟨d2,hd2⟩:=ex_ u2.heap.size;have HX:Hid (gm w.heap.size w X/\X.heap[d2]?=some (.cells (rE 1 2 0 0 0 0 42 167772215 0 0 0 0 0 0 167772161) 87 (0,0))):=Fe (by rw[hX,hd2];exact⟨HB2.alloc HB2.size _,bn3 u2 _⟩);go_wp2_with fail;rw[<-hX];refine(HWA _).mono ?_;rintro ee u3 ⟨⟨ek,rfl⟩,hb3⟩;rw[<-hd2];have HX3:Hid (gm w.heap.size w u3/\u3.heap[d2]?=some (.cells (rE 1 2 0 0 0 0 42 167772215 0 0 0 0 0 0 167772161) 87 (0,0))):=Fe ⟨HX.1.trans (hb3.mono HX.1.size),Rm HX.2 hb3⟩;clear hX hd2 g0 g1 g2 g3 g4 g5 k0 k1 k2 k3 k4 k5 hc0 hc1 hc2 hc3 hb3;have HC3:=Fe (HC.below HX3.1);obtain⟨g0,g1,g2,g3,g4,g5,k0,k1,k2,k3,k4,k5⟩:=gB HC3;go_wp2_with fail;refine(HWE _).mono ?_;rintro ee V ⟨⟨ek2,rfl⟩,hb4⟩;have HX5:Hid (gm w.heap.size w V/\V.heap[d2]?=some (.cells (rE 1 2 0 0 0 0 42 167772215 0 0 0 0 0 0 167772161) 87 (0,0))):=Fe ⟨HX3.1.trans (hb4.mono HX3.1.size),Rm HX3.2 hb4⟩;clear hb4 g0 g1 g2 g3 g4 g5 k0 k1 k2 k3 k4 k5 hmq;have HCE:Hid (∀u,gm V.heap.size V u->u.cell? (a_ d2 7)=some (Vb Vf 167772215)/\u.cell? (a_ d2 14)=some (Vb Vf 167772161)):=Fe (fun u hu=>⟨bn0 u _ 7 _ _ _ (Rm HX5.2 hu),bn0 u _ 14 _ _ _ (Rm HX5.2 hu)⟩);go_wp2_with fail;refine wp_region_held_drew (S:=fun u=>u.cell? (a_ d2 7)=some (Vb Vf 167772215)/\u.cell? (a_ d2 14)=some (Vb Vf 167772161)) (by kernel_rfl) (HCE _ ((bn9 _ _).drew)) (fun hHeld=> ?_);refine tkH_ (i:=0) (v:=(.string fr)) rfl (by kernel_rfl) (fun _ _ _ h=>h) (bo1 ⟨by rfl,?_⟩) hHeld ?_
 ·(intro wz hSz;go_simp)
 try simp only[Act.put,bn4,bn2,bn1,bm7,bm8,bm9]
 refine tkH_ (i:=2) (v:=(.pointer (some (a_ d2 7)))) rfl (by kernel_rfl) (fun _ _ _ h=>h) (bo1 ⟨by rfl,?_⟩) hHeld ?_
 ·(intro wz hSz;go_simp)
 try simp only[Act.put,bn4,bn2,bn1,bm7,bm8,bm9]
 refine tkH_ (i:=3) (v:=(Vb Vf 167772215)) rfl (by kernel_rfl) (fun _ _ _ h=>h) (bo1 ⟨by rfl,?_⟩) hHeld ?_
 ·(intro wz hSz;go_simp)
 try simp only[Act.put,bn4,bn2,bn1,bm7,bm8,bm9]
 refine tkH_ (i:=4) (v:=(.bool true)) rfl (by kernel_rfl) (fun _ _ _ h=>h) (bo1 ⟨by rfl,?_⟩) hHeld ?_
 ·(intro wz hSz;go_simp)
 try simp only[Act.put,bn4,bn2,bn1,bm7,bm8,bm9]
 refine tkH_ (i:=5) (v:=(.bool true)) rfl (by kernel_rfl) (fun _ _ _ h=>h) (bo1 ⟨by rfl,?_⟩) hHeld ?_
 ·(intro wz hSz;go_simp)
 try simp only[Act.put,bn4,bn2,bn1,bm7,bm8,bm9]
 refine tkH_ (i:=6) (v:=(.pointer (some (a_ d2 14)))) rfl (by kernel_rfl) (fun _ _ _ h=>h) (bo1 ⟨by rfl,?_⟩) hHeld ?_
 ·(intro wz hSz;go_simp)
 try simp only[Act.put,bn4,bn2,bn1,bm7,bm8,bm9]
 refine tkH_ (i:=7) (v:=(Vb Vf 167772161)) rfl (by kernel_rfl) (fun _ _ _ h=>h) (bo1 ⟨by rfl,?_⟩) hHeld ?_
 ·(intro wz hSz;go_simp)
 try simp only[Act.put,bn4,bn2,bn1,bm7,bm8,bm9]
 refine tkH_ (i:=8) (v:=(.bool true)) rfl (by kernel_rfl) (fun _ _ _ h=>h) (bo1 ⟨by rfl,?_⟩) hHeld ?_
 ·(intro wz hSz;go_simp)
 try simp only[Act.put,bn4,bn2,bn1,bm7,bm8,bm9]
 refine tkH_ (i:=9) (v:=(.bool true)) rfl (by kernel_rfl) (fun _ _ _ h=>h) (bo1 ⟨by rfl,?_⟩) hHeld ?_
 ·(intro wz hSz;go_simp)
 try simp only[Act.put,bn4,bn2,bn1,bm7,bm8,bm9]
 refine tkH_ (i:=10) (v:=undef) rfl (by kernel_rfl) (fun _ _ _ h=>h) (bo3 ⟨by rfl,rfl⟩) hHeld ?_;try simp only[Act.put,bn4,bn2,bn1,bm7,bm8,bm9]
 refine tkH_ (i:=11) (v:=undef) rfl (by kernel_rfl) (fun _ _ _ h=>h) (bo3 ⟨by rfl,rfl⟩) hHeld ?_;try simp only[Act.put,bn4,bn2,bn1,bm7,bm8,bm9]
 refine tkH_ (i:=12) (v:=undef) rfl (by kernel_rfl) (fun _ _ _ h=>h) (bo3 ⟨by rfl,rfl⟩) hHeld ?_;try simp only[Act.put,bn4,bn2,bn1,bm7,bm8,bm9]
 refine tkH_ (i:=13) (v:=undef) rfl (by kernel_rfl) (fun _ _ _ h=>h) (bo3 ⟨by rfl,rfl⟩) hHeld ?_;try simp only[Act.put,bn4,bn2,bn1,bm7,bm8,bm9]
 refine tkH_ (i:=14) (v:=undef) rfl (by kernel_rfl) (fun _ _ _ h=>h) (bo3 ⟨by rfl,rfl⟩) hHeld ?_;try simp only[Act.put,bn4,bn2,bn1,bm7,bm8,bm9]
 refine tkH_ (i:=15) (v:=undef) rfl (by kernel_rfl) (fun _ _ _ h=>h) (bo3 ⟨by rfl,rfl⟩) hHeld ?_;try simp only[Act.put,bn4,bn2,bn1,bm7,bm8,bm9]
 refine tkH_ (i:=16) (v:=undef) rfl (by kernel_rfl) (fun _ _ _ h=>h) (bo3 ⟨by rfl,rfl⟩) hHeld ?_;try simp only[Act.put,bn4,bn2,bn1,bm7,bm8,bm9]
 refine tkH_ (i:=17) (v:=(.bool true)) rfl (by kernel_rfl) (fun _ _ _ h=>h) (bo1 ⟨by rfl,?_⟩) hHeld ?_
 ·(intro wz hSz;go_simp)
 try simp only[Act.put,bn4,bn2,bn1,bm7,bm8,bm9]
 refine tkH_ (i:=18) (v:=(.bool true)) rfl (by kernel_rfl) (fun _ _ _ h=>h) (bo1 ⟨by rfl,?_⟩) hHeld ?_
 ·(intro wz hSz;go_simp)
 try simp only[Act.put,bn4,bn2,bn1,bm7,bm8,bm9]
 refine wpAnyH_ready (rs:=[1]) (by kernel_rfl) (by simp) ?_;refine AllReadyH.cons rfl (fun K hK=> ?_) AllReadyH.nil;go_simp
 clear hHeld;refine hK.out _ _ ?_ (fun hHeld=> ?_)
 ·exact HCE _ (((bn9 _ _).drew).alloc (bn7 _) _)
 clear hK K;try simp only[Act.put,bn4,bn2,bn1,bm7,bm8,bm9]
 refine tkH_ (i:=19) (v:=(.slice (some (a_ V.heap.size 0)) 1 1)) rfl (by kernel_rfl) (fun _ _ _ h=>h) (bo1 ⟨by rfl,?_⟩) hHeld ?_
 ·(intro wz hSz;go_simp)
 try simp only[Act.put,bn4,bn2,bn1,bm7,bm8,bm9]
 refine tkH_ (i:=20) (v:=(.bool true)) rfl (by kernel_rfl) (fun _ _ _ h=>h) (bo1 ⟨by rfl,?_⟩) hHeld ?_
 ·(intro wz hSz;go_simp)
 try simp only[Act.put,bn4,bn2,bn1,bm7,bm8,bm9]
 refine bw0 (by kernel_rfl) ?_ _;go_wp2;go_ret2;have hbz:gm V.heap.size V (V.drew.alloc (.cells #[.string fr] 9)):=((bn9 _ _).drew).alloc (bn7 _) _;have hbw:=HX5.1.trans (hbz.mono HX5.1.size);refine⟨V.heap.size,rfl,?_,HK.below hbw,⟨hbw.os,hbw.tape,hbw.output,hbw.size,fun j hj _=>hbw.block j hj⟩⟩;rw[gB HFR];exact Dm V.drew _ HX5.1.size
theorem ag3(k:At w H h)(c:NA w)(t0 t1 t2 t3 t4 t5:UInt8)(id fp tp:Int)(ld:ByteArray)(hid:0<=id/\id<=65535)(hta:0<=h.next/\h.next<=4294967295)(hfp:0<=fp/\fp<=65535)(htp:0<=tp/\tp<=65535)(h67:tp≠67)(hld:ld.size<=1472)(g:Tf.RH)(hg:ld=⟨(Tf.U7 g).toArray⟩)(hk:Tf.UU g=0)(hp:Tf.ZO g)(hb:g.block<65536)(Z:Ending->fV->Prop)
  (HD:∀u sa sc,At u H h->NA u->gm w.heap.size w u->Tf.X9 u sa g.fs->(∀ad,sa=some ad->w.heap.size<=ad.block)->f_ Vh 42 #[p_ H,.agg #[Vb Ve fp,Vb Ve tp,.string ld],.agg #[Vb Ve g.op,Vb Ve g.block,.string ⟨g.text.toArray⟩,.string ⟨g.data.toArray⟩,.slice sa g.fs.length sc]] u fun ee w'=>∃v1 v2,ee=.returned (.tuple #[v1,v2])/\Z ee w'):
  f_ Vh 23 #[p_ H,.string (og.ni [t0,t1,t2,t3,t4,t5,2,0,0,0,0,42] 2048 (Ip.Db id 64 17 167772215 h.next (Ud.sH fp tp 167772215 h.next ld)))] w Z:=by
 obtain⟨fr,hfrE⟩:∃fr:Int,fr=167772215:=⟨_,rfl⟩;obtain⟨ta,htaE⟩:∃ta:Int,ta=h.next:=⟨_,rfl⟩;rw[<-hfrE,<-htaE];rw[<-htaE]at hta;have hfr:0<=fr/\fr<=4294967295:=by rw[hfrE];decide
 obtain⟨z1,z2⟩:=Ye id fr ta fp tp ld;have HE:=Fe (Y4 t0 t1 t2 t3 t4 t5 2 0 0 0 0 42 2048 _ (by decide) (by decide) z1);have HI:=Fe (aN8 id 64 17 fr ta _ hid (by decide) (by decide) hfr hta z2);have HU:=Fe (aG1 fp tp fr ta ld hfp htp hfr hta hld);have hsz:=(Xj t0 t1 t2 t3 t4 t5 2 0 0 0 0 42 2048 _ (by decide) z1).1;have hmq:∀u,(Op.equalIn 10000 30 (.agg #[Vb Vd 2,Vb Vd 0,Vb Vd 0,Vb Vd 0,Vb Vd 0,Vb Vd 42]) (.agg #[Vb Vd 2,Vb Vd 0,Vb Vd 0,Vb Vd 0,Vb Vd 0,Vb Vd 42])).run Vh u=.ok true u:=fun u=>Sq.Yx 9998 2 0 0 0 0 42 u;generalize og.ni [t0,t1,t2,t3,t4,t5,2,0,0,0,0,42] 2048 (Ip.Db id 64 17 fr ta (Ud.sH fp tp fr ta ld))=sE at HE hsz ⊢;generalize WR (Ip.Db id 64 17 fr ta (Ud.sH fp tp fr ta ld))=sI at HE HI;generalize Ud.sH fp tp fr ta ld=sU at HI HU;have hs60: ¬(sE.size:Int)<60:=by omega
 have HK:=Fe k;have HC:=Fe c;have HDD:=Fe HD;clear k c HD z1 z2 hsz;have HTW:=Fe (fun u=>aG9 g ld hg hk hp hb (by have:=jc ld;rw[hg]at this;have e:(⟨(Tf.U7 g).toArray⟩:ByteArray).data.toList=Tf.U7 g:=rfl;rw[e]at this;rw[hg]at hld;omega) u);have g67:(tp==67)=false:=by simpa using h67
 have HFR:=Fe hfrE;have HTA:=Fe htaE;clear hg hk hp hb h67 hfrE htaE;go_enter func23,ntmps23;go_wp2_with fail;refine on_ (HE _) fun u1 hb1=>?_;have HC1:=Fe (HC.below hb1);obtain⟨g0,g1,g2,g3,g4,g5,_⟩:=gB HC1;have hc0:=HC1.lt.1;have hc1:(0:Nat)≠u1.heap.size:=bo5 hc0;have HB1:=Fe hb1;clear hb1 HE;go_wp2_with fail;obtain⟨eR,heR⟩:∃eR:Array Value,eR=#[Vb Vd t0.toNat,Vb Vd t1.toNat,Vb Vd t2.toNat,Vb Vd t3.toNat,Vb Vd t4.toNat,Vb Vd t5.toNat,Vb Vd 2,Vb Vd 0,Vb Vd 0,Vb Vd 0,Vb Vd 0,Vb Vd 42,Vb Ve 2048,.string sI]:=⟨_,rfl⟩;rw[<-heR];have HER:Hid (eR[12]?=some (Vb Ve 2048)):=Fe (by rw[heR];rfl);have HX1:Hid (gm w.heap.size w (u1.alloc (.cells eR 55))/\(u1.alloc (.cells eR 55)).heap[u1.heap.size]?=some (.cells eR 55 (0,0))):=Fe ⟨HB1.alloc HB1.size _,bn3 u1 _⟩;clear g0 g1 g2 g3 g4 g5 hc0 hc1 hmq heR HC1;refine on_ (HI _) fun u2 hb2=>?_;have HX2:Hid (gm w.heap.size w u2/\u2.heap[u1.heap.size]?=some (.cells eR 55 (0,0))):=Fe ⟨HX1.1.trans (hb2.mono HX1.1.size),Rm HX1.2 hb2⟩;clear hb2 HX1 HI HB1;obtain⟨d1,hd1⟩:=ex_ u1.heap.size;rw[<-hd1]at HX2 ⊢;clear hd1;go_wp2_with fail;have HX3:Hid (gm w.heap.size w (u2.alloc (.cells #[Vb Ve id,Vb Vd 64,Vb Vd 17,Vb Vf fr,Vb Vf ta,.string sU] 59))/\(u2.alloc (.cells #[Vb Ve id,Vb Vd 64,Vb Vd 17,Vb Vf fr,Vb Vf ta,.string sU] 59)).heap[d1]?=some (.cells eR 55 (0,0))/\(u2.alloc (.cells #[Vb Ve id,Vb Vd 64,Vb Vd 17,Vb Vf fr,Vb Vf ta,.string sU] 59)).heap[u2.heap.size]?=some (.cells #[Vb Ve id,Vb Vd 64,Vb Vd 17,Vb Vf fr,Vb Vf ta,.string sU] 59 (0,0))):=Fe ⟨HX2.1.alloc HX2.1.size _,Rm HX2.2 b1_,bn3 u2 _⟩;refine on_ (HU _) fun u3 hb3=>?_;obtain⟨d2,hd2⟩:=ex_ u2.heap.size;have HX4:Hid (gm w.heap.size w u3/\u3.heap[d1]?=some (.cells eR 55 (0,0))/\u3.heap[d2]?=some (.cells #[Vb Ve id,Vb Vd 64,Vb Vd 17,Vb Vf fr,Vb Vf ta,.string sU] 59 (0,0))):=Fe ⟨HX3.1.trans (hb3.mono HX3.1.size),Rm HX3.2.1 hb3,by rw[hd2];exact Rm HX3.2.2 hb3⟩;rw[<-hd2];clear hb3 HX3 HU HX2 hd2;have e12:u3.cell? (a_ d1 12)=some (Vb Ve 2048):=by rw[bn0 u3 _ 12 _ _ _ HX4.2.1];exact HER
 have i2:u3.cell? (a_ d2 2)=some (Vb Vd 17):=bn0 u3 _ 2 _ _ _ HX4.2.2;have n1:=gG HX4.2.1;have n2:=gG HX4.2.2;have n3:d1≠u3.heap.size:=bo5 n1;have n4:d2≠u3.heap.size:=bo5 n2;have HX5:Hid (gm w.heap.size w (u3.alloc (.cells #[Vb Ve fp,Vb Ve tp,.string ld] 69))):=Fe (HX4.1.alloc HX4.1.size _);go_wp2_with fail;refine(HTW _).mono ?_;rintro ee u4 ⟨sa,sc,rfl,ho4,hb4⟩;obtain⟨d3,hd3⟩:=ex_ u3.heap.size;rw[<-hd3];have HX6:Hid (gm w.heap.size w u4/\u4.heap[d2]?=some (.cells #[Vb Ve id,Vb Vd 64,Vb Vd 17,Vb Vf fr,Vb Vf ta,.string sU] 59 (0,0))/\u4.heap[d3]?=some (.cells #[Vb Ve fp,Vb Ve tp,.string ld] 69 (0,0))/\u4.ownsRow w.heap.size 146 2 (.slice sa g.fs.length sc) g.fs.length (Tf.Rf g.fs)):=Fe (by
  refine⟨HX5.trans (hb4.mono HX5.size),Rm (Rm HX4.2.2 b1_) hb4,by rw[hd3];exact Rm (bn3 u3 _) hb4,?_⟩
  exact⟨ho4.1,ho4.2.imp (fun z=>z) (fun⟨g',cap,cur,e1,e2,e3⟩=>⟨g',cap,cur,e1,bo6 HX5.size e2,e3⟩)⟩)
 clear ho4 hb4 HTW HX5 HX4 e12 i2 n1 n2 n3 n4 hd3;obtain⟨X,hX⟩:=ex_ (u4.alloc (.cells #[Vb Ve g.op,Vb Ve g.block,.string ⟨g.text.toArray⟩,.string ⟨g.data.toArray⟩,.slice sa g.fs.length sc] 96));obtain⟨d4,hd4⟩:=ex_ u4.heap.size;have HX7:Hid (gm w.heap.size w X/\X.heap[d2]?=some (.cells #[Vb Ve id,Vb Vd 64,Vb Vd 17,Vb Vf fr,Vb Vf ta,.string sU] 59 (0,0))/\X.heap[d3]?=some (.cells #[Vb Ve fp,Vb Ve tp,.string ld] 69 (0,0))/\X.heap[d4]?=some (.cells #[Vb Ve g.op,Vb Ve g.block,.string ⟨g.text.toArray⟩,.string ⟨g.data.toArray⟩,.slice sa g.fs.length sc] 96 (0,0))/\X.ownsRow w.heap.size 146 2 (.slice sa g.fs.length sc) g.fs.length (Tf.Rf g.fs)):=Fe (by
  have hb:gm u4.heap.size u4 X:=by rw[hX];exact(bn9 _ _).alloc (bn7 _) _
  exact⟨HX6.1.trans (hb.mono HX6.1.size),Rm HX6.2.1 hb,Rm HX6.2.2.1 hb,by rw[hX,hd4];exact bn3 u4 _,iN HX6.2.2.2 (fun j hj=>hb.block j (HX6.2.2.2.lt j hj).2)⟩)
 go_wp2_with fail;rw[<-hX,<-hd4];clear hX hd4 HX6;have i3:X.cell? (a_ d2 3)=some (Vb Vf 167772215):=by rw[<-gB HFR];exact bn0 X _ 3 _ _ _ HX7.2.1
 have i4:X.cell? (a_ d2 4)=some (Vb Vf ta):=bn0 X _ 4 _ _ _ HX7.2.1;have r2:X.cell? (a_ H 2)=some (Vb Vf ta):=by rw[gB HTA];exact(HK.below HX7.1).cell 2
 go_quiet (fail);obtain⟨Y,hY⟩:=ex_ (X.drewN nq);have HY:Hid (gm w.heap.size w Y/\Y.heap=X.heap):=Fe (by rw[hY];exact⟨below_drewN HX7.1 _,rfl⟩);have y3:Y.heap[d3]?=some (.cells #[Vb Ve fp,Vb Ve tp,.string ld] 69 (0,0)):=by rw[HY.2];exact HX7.2.2.1
 have y4:Y.heap[d4]?=some (.cells #[Vb Ve g.op,Vb Ve g.block,.string ⟨g.text.toArray⟩,.string ⟨g.data.toArray⟩,.slice sa g.fs.length sc] 96 (0,0)):=by rw[HY.2];exact HX7.2.2.2.1
 have HYO:Hid (Y.ownsRow w.heap.size 146 2 (.slice sa g.fs.length sc) g.fs.length (Tf.Rf g.fs)):=Fe (iN HX7.2.2.2.2 (fun j _=>by rw[HY.2]));rw[<-hY];clear hY i3 i4 r2 HX7;obtain⟨a0,a1,a2⟩:=Gf y3;obtain⟨b0,b1,b2,b3,b4⟩:=aF3 y4;have HCL:=Fe (HDD Y sa sc (HK.below HY.1) (HC.below HY.1) HY.1 (ac0 HYO) (fun ad e=>by subst e;exact(HYO.lt ad.block rfl).1));clear y3 y4;go_wp2_with fail;refine HCL.mono ?_;rintro ee u5 ⟨v1,v2,rfl,hz⟩;have HZ:=Fe hz;clear hz HDD HCL;go_wp2;exact HZ
end Ho
end Go.Proofs.YtdgacidndknceaaGreatDoor
