import Derived.Test.YtdgacidndknceaaGreatDoorMg18
import Derived.Deep.OwnRows
import Derived.Test.YtdgacidndknceaaGreatDoorShelf
set_option linter.all false
set_option maxHeartbeats 4000000
set_option maxRecDepth 10000
open Go.ChangeShapes Go.WideShapes Go.ChangeAt Go.RowKit
open Go renaming World → fV, Calls → f_
open Go.RowKit renaming Below → gm
open Go.Proofs.Tryz renaming prog → Vh
open Go.Value renaming int → Vb
open Go.IntKind renaming u8 → Vd, u16 → Ve, u32 → Vf, i64 → Vg
open Go.Proofs.Tryz
namespace Go.Proofs.YtdgacidndknceaaGreatDoor
namespace Tf
open Bs
open Go.Sort (Holds grow putRow mapBlock holds_grow holds_putRow heap_grow_old)
def X9(w:fV)(a:Option Addr)(fs:pO):Prop:=
 ∀i (h:i<fs.length),∃ad,a=some ad/\w.cell? (ad.add (i*2))=some (.string ⟨fs[i].1.toArray⟩)/\w.cell? (a_ ((ad.add (i*2)).block) ((ad.add (i*2)).off+1))=some (.string ⟨fs[i].2.toArray⟩)
theorem CP{w:fV}{p:Addr}{v:Value}(h:w.cell? p=some v):p.block<w.heap.size:=by
 by_cases hlt:p.block<w.heap.size
 ·exact hlt
 have hn:w.heap[p.block]?=none:=by simp;omega
 simp[World.cell?,hn]at h
theorem add_block(ad:Addr)(n:Nat):(ad.add n).block=ad.block:=by unfold Addr.add;split<;>rfl
theorem X9.below{w w':fV}{a:Option Addr}{fs:pO}{n:Nat}(h:X9 w a fs)(hb:gm n w w')(hn:w.heap.size<=n):X9 w' a fs:=fun i hi=>by
 obtain⟨ad,e,h0,h1⟩:=h i hi;have l0:=CP h0;refine⟨ad,e,?_,?_⟩
 ·rw[hb.cell (by omega)];exact h0
 rw[hb.cell (by show(ad.add (i*2)).block<n;omega)];exact h1
theorem X9.lower{w w':fV}{a:Option Addr}{fs:pO}{n:Nat}(h:X9 w a fs)(hb:gm n w w')(hn:∀ad,a=some ad->0<fs.length->ad.block<n):X9 w' a fs:=fun i hi=>by
 obtain⟨ad,e,h0,h1⟩:=h i hi;have l0:=hn ad e (by omega);have l1:=add_block ad (i*2);refine⟨ad,e,?_,?_⟩
 ·rw[hb.cell (by rw[l1];exact l0)];exact h0
 rw[hb.cell (by show(ad.add (i*2)).block<n;rw[l1];exact l0)];exact h1
theorem X9.old{w:fV}{a:Option Addr}{fs:pO}{n:Nat}(h:X9 w a fs)(hn:w.heap.size<=n):∀ad,a=some ad->0<fs.length->ad.block<n:=fun ad e hl=>by
 obtain⟨ad',e',h0,_⟩:=h 0 hl;have h1:=CP h0;rw[add_block]at h1;rw[e]at e';obtain rfl:=bp4 e';omega
def WY(w:fV)(g:Nat)(L:List (List UInt8)):Prop:=w.heap[g]?=some (.cells (L.map encStr).toArray 9 (0,0))
theorem WY.lt{w:fV}{g:Nat}{L:List (List UInt8)}(h:WY w g L):g<w.heap.size:=(bs2.1 h).1
theorem WY.cell{w:fV}{g:Nat}{L:List (List UInt8)}(h:WY w g L)(j:Nat)(hj:j<L.length):w.cell? (a_ g j)=some (.string ⟨L[j].toArray⟩):=by
 rw[bn0 w g j _ _ _ h];simp[hj]
theorem WY.free{w:fV}{g:Nat}{L:List (List UInt8)}(h:WY w g L)(j:Nat):w.frozen? (a_ g j)=false:=by
 unfold WY at h;simp[World.frozen?,h]
theorem WY.set{w:fV}{g:Nat}{L:List (List UInt8)}(h:WY w g L)(j:Nat)(x:List UInt8):WY (w.setCell (a_ g j) (.string ⟨x.toArray⟩)) g (L.set j x):=by
 unfold WY at*;rw[bs3 w g j _ _ _ _ h,bt2 w g _ _ _ _ h];congr 2
 simp[List.map_set]
theorem WY.holds{w:fV}{g:Nat}{L:List (List UInt8)}(h:WY w g L):Holds encStr w g 0 L.toArray:=fun j hj=>by
 have hj':j<L.length:=by simpa using hj
 rw[by0];refine⟨?_,h.free j⟩;rw[h.cell j hj'];congr 3
 rw[List.getElem!_toArray,bE6 L j hj']
theorem WY.made(w:fV)(n:Nat):WY (w.alloc (.cells (madeCells #[.string ⟨#[]⟩] n) 9)) w.heap.size (List.replicate n []):=by
 have e:madeCells #[Value.string ⟨#[]⟩] n=((List.replicate n ([]:List UInt8)).map encStr).toArray:=by
  apply bD1;rw[bg4];simp[encStr]
 unfold WY;rw[e];exact bn3 w _
theorem WY.alloc{w:fV}{g:Nat}{L:List (List UInt8)}(h:WY w g L)(o:Obj):WY (w.alloc o) g L:=by
 unfold WY at*;rw[bn8 _ _ _ (bo2 h)];exact h
def WG(fs:pO)(k:Nat):List (List UInt8):=(V4 fs).take k++List.replicate (fs.length-k) []
theorem ac3(fs:pO):WG fs 0=List.replicate fs.length []:=by simp[WG]
theorem ah4(fs:pO):WG fs fs.length=V4 fs:=by
 unfold WG;rw[<-Ol fs,br0];simp
theorem ae7(fs:pO)(k:Nat)(h:k<fs.length):(WG fs k).set k fs[k].1=WG fs (k+1):=by
 have hl:=Ol fs;unfold WG;rw[bz6 _ _ (by rw[bp7];omega),bp7,hl,bD0 (by omega),Nat.sub_self,show fs.length-k=(fs.length-(k+1))+1 by omega,List.replicate_succ,bm8,bo8 (by omega),bq1];simp[V4]
theorem aa3{N g:Nat}{w:fV}(n:Nat)(d:Array (List UInt8))(os:Array Obj)(h:N<=g)(hN:N<=w.heap.size):gm N w (grow (putRow encStr (Sort.ahead w n) g 0 d) os):=by
 refine⟨rfl,rfl,rfl,by simp,fun k hk=> ?_⟩;rw[heap_grow_old _ _ (by simp;omega)];simp only[putRow,mapBlock,Sort.ahead,Array.getElem?_modify];rw[bo4 (by omega)]
theorem wW:(prog.info? 9).map (fun i=>(i.zero,i.size,i.bytes))=some (some (.string ⟨#[]⟩),1,16):=by kernel_rfl
theorem Zl(a:Option Addr)(cap:Nat)(fs:pO)(w:fV)(hA:X9 w a fs)(hl:fs.length<=268435456):
  f_ Vh 199 #[.slice a fs.length cap] w fun e w'=>e=.returned (.bool (uT (V4 fs)))/\gm w.heap.size w w':=by
 have hmk:=fun(w:fV)=>run_make_row' (P:=Vh) 44 9 (.string ⟨#[]⟩) 16 by2 wW rfl .i64 .i64 fs.length (by omega) (by omega) w;have HA:=Fe hA;have HM:=Fe (WY.made w fs.length);clear hA;go_enter func199,ntmps199;go_wp2;go_loopw [11] (fun i wr=>∃k:Nat,k<=fs.length/\i=Vb Vg k/\Hid (WY wr w.heap.size (WG fs k))/\Hid (gm w.heap.size w wr)) (fun i _=>fs.length-(intOf i).toNat)
 case atStart=>exact⟨0,bp3 _,rfl,Fe (by rw[ac3];exact HM),Fe b1_⟩
 obtain⟨k,hk,rfl,HR,HW⟩:=hrel;rename fV=>wr;have hg:=HR.lt
 by_cases hlt:k<fs.length
 ·obtain⟨ad,rfl,c0,c1⟩:=HA.below HW (bn7 _) k hlt
  have hlt':(k:Int)<(fs.length:Int):=by omega
  have f0:=HR.free k;have hnl:(WG fs k).length=fs.length:=by unfold WG;rw[bn6,bp7,Ol,bt4];omega
  have c2:=HR.cell k (by omega);obtain⟨o,ho⟩:∃o:ByteArray,o=⟨(WG fs k)[k].toArray⟩:=⟨_,rfl⟩;rw[<-ho]at c2;have HN:=Fe (ae7 fs k hlt);have HS:=Fe (fun x=>HR.set k x);obtain⟨n,v,hnv⟩:∃n v,fs[k]=(n,v):=⟨_,_,rfl⟩;rw[hnv]at c0 c1 HN;clear hnv ho hnl;go_wp2;go_roundw
  case rel=>exact⟨k+1,by omega,by go_num,Fe (by rw[<-gB HN];exact(HS n).alloc _),Fe ((HW.setCell (bn7 _) _).alloc (by simp;omega) _)⟩
  simp[intOf];omega
 have e:k=fs.length:=by omega
 have hlt': ¬(k:Int)<(fs.length:Int):=by omega
 have HF:Hid (WY wr w.heap.size (V4 fs)):=Fe (by rw[<-ah4,<-e];exact HR);have HC:=Fe (Sf.slices_Sort_string w.heap.size 0 fs.length (V4 fs) wr HF.holds hg (by rw[Ol];omega));rw[Ol]at HC;have HSC:=Fe (OH (V4 fs));rw[Ol]at HSC;have hsl:(XR (V4 fs)).length=fs.length:=by rw[Py,Ol]
 have HSL:=Fe hsl;have HH:=Fe (HF.holds);clear e hmk hsl;go_wp2_with fail;refine on_ HC ?_;rintro w1 ⟨n,os,hw1⟩;have hw1':w1=grow (putRow encStr (Sort.ahead wr n) w.heap.size 0 (XR (V4 fs)).toArray) os:=hw1;have hB1:gm w.heap.size w w1:=HW.trans (by rw[hw1'];exact aa3 n _ os (bn7 _) (by omega));have hH1:Holds encStr w1 w.heap.size 0 (XR (V4 fs)).toArray:=by
  rw[hw1'];refine holds_grow _ _ _ _ _ _ (by simp;exact hg) (holds_putRow _ _ _ _ (V4 fs).toArray _ HH (by simp[gB HSL,Ol]))
 have HC2:=Fe (Sf.slices_Compact_string w.heap.size 0 fs.length (XR (V4 fs)) w1 hH1 (by rw[gB HSL];omega) (by rw[gB HSL];exact bn7 _));rw[gB HSL]at HC2;have hz1:=hB1.size;have HB1:=Fe hB1;clear hw1 hw1' hH1 hB1 HC;obtain⟨m,hm⟩:=ex_ ((Lib.compact (XR (V4 fs))).length);rw[<-hm]at HC2 HSC;go_wp2_with fail;refine on_ HC2 ?_;rintro w2 ⟨q,hw2⟩;have HB2:Hid (gm w.heap.size w w2):=Fe (HB1.trans (by
  rw[hw2,<-Sort.grow_empty (putRow _ _ _ _ _)]
  exact aa3 q _ #[] (bn7 _) (by omega)))
 clear hw2 HC2;go_wp2;go_ret;refine⟨?_,HB2⟩;rw[<-gB HSC];show Ending.returned (.bool _)=_;congr 2
 rw[Bool.eq_iff_iff];simp;omega
end Tf
namespace Tf
open Bs
theorem iF{w w':fV}(h:gm w.heap.size w w'):∀b o,b<w.heap.size->w'.cell? (a_ b o)=w.cell? (a_ b o):=fun b o hb=>h.cell (p:=(a_ b o)) hb
theorem below_drewN{N:Nat}{a w:fV}(h:gm N a w)(n:Nat):gm N a (w.drewN n):=⟨h.os,h.tape,h.output,h.size,h.block⟩
theorem az3{fs:pO}{k:Nat}(h:k<fs.length)(hb:Qn fs[k]=false):yK fs=false:=by
 apply OM fs (k+1);rw[QG fs k h,hb];simp
def Yd(fs:pO):Bool:=fs.all Qn
theorem ae9{fs:pO}{k:Nat}(h:k<fs.length)(h0:Yd (fs.take k)=true)(h1:Qn fs[k]=true):Yd (fs.take (k+1))=true:=by
 unfold Yd at*;rw[bo8 h,List.all_append,h0];simpa using h1
theorem as9(a:Option Addr)(cap:Nat)(fs:pO)(w:fV)(hA:X9 w a fs)(hl:lF fs<=268435456):
  f_ Vh 200 #[.slice a fs.length cap] w fun e w'=>e=.returned (.bool (yK fs))/\gm w.heap.size w w':=by
 have hlen:fs.length<=lF fs:=by unfold lF;omega
 have HA:=Fe hA;clear hA;go_enter func200,ntmps200;go_wp2;go_loopw [7] (fun i wr=>∃k:Nat,k<=fs.length/\i=Vb Vg k/\Hid (Yd (fs.take k)=true)/\Hid (gm w.heap.size w wr)) (fun i _=>fs.length-(intOf i).toNat)
 case atStart=>exact⟨0,bp3 _,rfl,Fe rfl,Fe (bn9 _ _)⟩
 obtain⟨k,hk,rfl,HG,HW⟩:=hrel;rename fV=>wr;have hwz:=HW.size
 by_cases hlt:k<fs.length
 ·obtain⟨ad,rfl,c0,c1⟩:=HA.below HW (bn7 _) k hlt
  have hlt':(k:Int)<(fs.length:Int):=by omega
  have h1:=Ro fs k hlt;have HBD:=Fe (fun h=>az3 (fs:=fs) hlt h);have HOK:=Fe (fun h=>ae9 (fs:=fs) hlt HG h);obtain⟨n,v,hnv⟩:∃n v,fs[k]=(n,v):=⟨_,_,rfl⟩;rw[hnv]at c0 c1 HBD HOK h1;simp only at h1;have hgd:Qn (n,v)=(iM n && (pg n==n) && iM v):=rfl;obtain⟨ns,hns⟩:∃s:ByteArray,s=⟨n.toArray⟩:=⟨_,rfl⟩;obtain⟨vs,hvs⟩:∃s:ByteArray,s=⟨v.toArray⟩:=⟨_,rfl⟩;rw[<-hns]at c0;rw[<-hvs]at c1;have hbn:ns.data.toList.length<=9223372036854775807:=by rw[hns];simp;omega
  have hbv:vs.data.toList.length<=9223372036854775807:=by rw[hvs];simp;omega
  have HI:=Fe (fun(s:ByteArray) (h:s.data.toList.length<=9223372036854775807) u=>lI s _ u rfl h);have HSM:=Fe (fun u=>xB ns n u (by rw[hns]) (by omega));have gn:iM ns.data.toList=iM n:=by rw[hns]
  have gv:iM vs.data.toList=iM v:=by rw[hvs]
  have HNS:=Fe hns;clear hns hvs hnv
  by_cases hn:iM n=true
  ·rw[hn]at gn
   obtain⟨ls,hls⟩:∃s:ByteArray,s=⟨(pg n).toArray⟩:=⟨_,rfl⟩;rw[<-hls]at HSM
   by_cases hlo:pg n=n
   ·have e1:ls=ns:=by rw[hls,hlo,gB HNS]
    rw[e1]at HSM;clear hls e1
    by_cases hv:iM v=true
    ·rw[hv]at gv
     have HN:Hid (Yd (fs.take (k+1))=true):=Fe (HOK (by rw[hgd,hn,hlo,hv];simp));clear HBD HOK hgd hn hlo hv;go_wp2;go_region_held3 (fun u=>u.cell? (a_ wr.heap.size 0)=some (.string ns)/\u.cell? (a_ wr.heap.size 1)=some (.string vs)/\wr.heap.size<u.heap.size) (go_keep)
      (first|(go_at_call 80;refine(HI _ (by first|exact hbn|exact hbv) _).mono ?_;rintro e u ⟨rfl,rfl⟩)|(go_at_call 198;refine(HSM _).mono ?_;rintro e u ⟨rfl,hb⟩;have hc:=iF hb;have hz:=hb.size;have hzz:wr.heap.size<u.heap.size:=by first|omega|(simp at hz;omega)))
     have HBU:Hid (gm w.heap.size w u):=Fe (((HW.alloc hwz _).drew).trans (‹gm _ _ u›.mono (by simp;omega)));go_wp2;exact⟨⟨k+1,by omega,by go_num,HN,HBU⟩,by simp[intOf];omega⟩
    have hv':iM v=false:=by simpa using hv
    rw[hv']at gv;have HN:Hid (yK fs=false):=Fe (HBD (by rw[hgd,hv'];simp));clear HBD HOK hgd hn hlo hv hv';go_wp2;go_region_held3 (fun u=>u.cell? (a_ wr.heap.size 0)=some (.string ns)/\u.cell? (a_ wr.heap.size 1)=some (.string vs)/\wr.heap.size<u.heap.size) (go_keep)
     (first|(go_at_call 80;refine(HI _ (by first|exact hbn|exact hbv) _).mono ?_;rintro e u ⟨rfl,rfl⟩)|(go_at_call 198;refine(HSM _).mono ?_;rintro e u ⟨rfl,hb⟩;have hc:=iF hb;have hz:=hb.size;have hzz:wr.heap.size<u.heap.size:=by first|omega|(simp at hz;omega)))
    have HBU:Hid (gm w.heap.size w u):=Fe (((HW.alloc hwz _).drew).trans (‹gm _ _ u›.mono (by simp;omega)));go_wp2;go_ret;exact⟨by rw[gB HN];rfl,HBU⟩
   have hne:(ls.toList==ns.toList)=false:=by
    rw[bq0,bq0,hls,gB HNS];simpa using hlo
   have HN:Hid (yK fs=false):=Fe (HBD (by rw[hgd,hn];simp[hlo]));clear HBD HOK hgd hn hlo hls;go_wp2;refine wp_region_held_drew (S:=fun u=>u.cell? (a_ wr.heap.size 0)=some (.string ns)) (by kernel_rfl) (by go_keep) (fun hS0=> ?_);refine tkH_ (i:=0) (v:=(p_ wr.heap.size)) rfl (by kernel_rfl) (fun _ _ _ h=>h) (bo1 ⟨by rfl,?_⟩) hS0 ?_
   ·intro u hu;go_simp
   try simp only[Act.put,bm7,bm8,bm9]
   refine tkH_ (i:=1) (v:=.string ns) rfl (by kernel_rfl) (fun _ _ _ h=>h) (bo1 ⟨by rfl,?_⟩) hS0 ?_
   ·intro u hu;go_simp
   try simp only[Act.put,bm7,bm8,bm9]
   refine wpAnyH_ready (rs:=[2]) (by kernel_rfl) (by simp) ?_;refine AllReadyH.cons rfl (fun K hK=> ?_) AllReadyH.nil;go_simp
   refine(HI _ hbn _).mono ?_;rintro e u ⟨rfl,rfl⟩;rw[gn];refine hK.out _ _ hS0 (fun _=> ?_);clear hK K;try simp only[Act.put,bm7,bm8,bm9]
   refine tkH_ (i:=3) (v:=.bool false) rfl (by kernel_rfl) (fun _ _ _ h=>h) (bo1 ⟨by rfl,?_⟩) hS0 ?_
   ·intro u hu;go_simp
   try simp only[Act.put,bm7,bm8,bm9]
   refine tkH_ (i:=4) (v:=.bool false) rfl (by kernel_rfl) (fun _ _ _ h=>h) (bo1 ⟨by rfl,?_⟩) hS0 ?_
   ·intro u hu;go_simp
   try simp only[Act.put,bm7,bm8,bm9]
   refine tkH_ (i:=5) (v:=(p_ wr.heap.size)) rfl (by kernel_rfl) (fun _ _ _ h=>h) (bo1 ⟨by rfl,?_⟩) hS0 ?_
   ·intro u hu;go_simp
   try simp only[Act.put,bm7,bm8,bm9]
   refine tkH_ (i:=6) (v:=.string ns) rfl (by kernel_rfl) (fun _ _ _ h=>h) (bo1 ⟨by rfl,?_⟩) hS0 ?_
   ·intro u hu;go_simp
   try simp only[Act.put,bm7,bm8,bm9]
   refine tkH_ (i:=8) (v:=(p_ wr.heap.size)) rfl (by kernel_rfl) (fun _ _ _ h=>h) (bo1 ⟨by rfl,?_⟩) hS0 ?_
   ·intro u hu;go_simp
   try simp only[Act.put,bm7,bm8,bm9]
   refine tkH_ (i:=9) (v:=.string ns) rfl (by kernel_rfl) (fun _ _ _ h=>h) (bo1 ⟨by rfl,?_⟩) hS0 ?_
   ·intro u hu;go_simp
   try simp only[Act.put,bm7,bm8,bm9]
   refine wpAnyH_ready (rs:=[7]) (by kernel_rfl) (by simp) ?_;refine AllReadyH.cons rfl (fun K hK=> ?_) AllReadyH.nil;go_simp
   refine on_ (HSM _) fun u hb=>?_;have hS1:u.cell? (a_ wr.heap.size 0)=some (.string ns):=(iF hb _ _ (by simp)).trans hS0;have HBU:Hid (gm w.heap.size w u):=Fe (((HW.alloc hwz _).drew).trans (hb.mono (by simp;omega)));clear hb;refine hK.out _ _ hS1 (fun _=> ?_);clear hK K;try simp only[Act.put,bm7,bm8,bm9]
   refine tkH_ (i:=10) (v:=.bool true) rfl (by kernel_rfl) (fun _ _ _ h=>h) (bo1 ⟨by rfl,?_⟩) hS1 ?_
   ·intro u hu;go_simp
   try simp only[Act.put,bm7,bm8,bm9]
   refine tkH_ (i:=11) (v:=.bool true) rfl (by kernel_rfl) (fun _ _ _ h=>h) (bo1 ⟨by rfl,?_⟩) hS1 ?_
   ·intro u hu;go_simp
   try simp only[Act.put,bm7,bm8,bm9]
   refine tkH_ (i:=12) (v:=.bool true) rfl (by kernel_rfl) (fun _ _ _ h=>h) (bo1 ⟨by rfl,?_⟩) hS1 ?_
   ·intro u hu;go_simp
   try simp only[Act.put,bm7,bm8,bm9]
   refine tkH_ (i:=13) (v:=undef) rfl (by kernel_rfl) (fun _ _ _ h=>h) (bo3 ⟨by rfl,rfl⟩) hS1 ?_;try simp only[Act.put,bm7,bm8,bm9]
   refine tkH_ (i:=14) (v:=undef) rfl (by kernel_rfl) (fun _ _ _ h=>h) (bo3 ⟨by rfl,rfl⟩) hS1 ?_;try simp only[Act.put,bm7,bm8,bm9]
   refine tkH_ (i:=15) (v:=undef) rfl (by kernel_rfl) (fun _ _ _ h=>h) (bo3 ⟨by rfl,rfl⟩) hS1 ?_;try simp only[Act.put,bm7,bm8,bm9]
   refine tkH_ (i:=16) (v:=undef) rfl (by kernel_rfl) (fun _ _ _ h=>h) (bo3 ⟨by rfl,rfl⟩) hS1 ?_;try simp only[Act.put,bm7,bm8,bm9]
   refine wpAnyH_ready (rs:=[17]) (by kernel_rfl) (by simp) ?_;refine AllReadyH.cons rfl (fun K hK=> ?_) AllReadyH.nil;go_simp
   refine hK.out _ _ hS1 (fun _=> ?_);clear hK K;try simp only[Act.put,bm7,bm8,bm9]
   refine bw0 (by kernel_rfl) ?_ _;go_wp2;go_ret;exact⟨by rw[gB HN];rfl,HBU⟩
  have hn':iM n=false:=by simpa using hn
  rw[hn']at gn;have HN:Hid (yK fs=false):=Fe (HBD (by rw[hgd,hn'];simp));clear HBD HOK hgd hn hn';go_wp2;go_quiet ((go_at_call 80;exact bp9 (HI _ (by first|exact hbn|exact hbv) _)));go_wp2;go_ret;exact⟨by rw[gB HN];rfl,below_drewN (HW.alloc hwz _) _⟩
 have e:k=fs.length:=by omega
 have hlt': ¬(k:Int)<(fs.length:Int):=by omega
 have HT:Hid (yK fs=uT (V4 fs)):=Fe (by
  have q:=gB HG
  rw[e,br0]at q
  unfold yK
  unfold Yd at q
  rw[q,Bool.true_and])
 have HD:=Fe (Zl a cap fs wr (HA.below HW (bn7 _)) (by omega));clear e;go_wp2_with fail;refine on_ HD fun u hb=>?_;have HB:Hid (gm w.heap.size w u):=Fe (HW.trans (hb.mono hwz));clear hb;go_wp2;go_ret;exact⟨by rw[gB HT];rfl,HB⟩
theorem index_le(l:List UInt8):decide (0<=Lib.indexByte l 0)=l.contains 0:=by
 induction l with
 |nil=>rfl
 |cons c r ih=>
  have hge:=Lib.indexByte_ge r 0;unfold Lib.indexByte;rw[List.contains_cons]
  by_cases hc:c=0
  ·subst hc;simp
  have e1:(c==0)=false:=by simpa using hc
  have e2:((0:UInt8)==c)=false:=by simpa using fun h=>hc h.symm
  rw[e1,e2,Bool.false_or,<-ih];simp only[bu2,bz1]
  by_cases hm:Lib.indexByte r 0= -1
  ·rw[hm];rfl
  have:(Lib.indexByte r 0== -1)=false:=by simpa using hm
  rw[this];simp only[bu2,bz1];rw[decide_eq_decide];omega
end Tf
namespace Tf
open Bs Wt
def WC(ss:List ByteArray):List UInt8:=ss.flatMap fun s=>s.data.toList++ [0]
theorem al3(ss:List ByteArray)(k:Nat)(h:k<ss.length):WC (ss.take (k+1))=WC (ss.take k)++(ss[k].data.toList++ [0]):=by
 rw[WC,bo8 h,bs9];simp[WC]
theorem ZV(ss:List ByteArray)(k:Nat):(WC (ss.take k)).length<=(WC ss).length:=by
 have e:WC ss=WC (ss.take k)++WC (ss.drop k):=by
  rw[WC,WC,WC,<-bs9,bs6]
 rw[e,bn6];omega
theorem aq5(B bs:Nat)(s t:ByteArray)(L:List UInt8)(w:fV)(hW:Wr w B L)(hbs:bs=w.heap.size)(hsz:L.length+(s.size+t.size)<=1099511627776):
  f_ Vh 116 #[p_ B,.slice (some (a_ bs 0)) 2 2] (w.alloc (.cells #[.string s,.string t] 9)) fun e w'=>
   e=.returned (.tuple #[])/\Wr w' B (L++(s.data.toList++t.data.toList))/\Kept B w w':=by
 subst hbs;have eF:flat [s,t]=s.data.toList++t.data.toList:=by simp[flat]
 have h:=J5 B w.heap.size 2 [s,t] L _ (hW.alloc (.cells #[.string s,.string t] 9)) hW.lt (bn3 w _) (by rw[eF,bn6,jc,jc];exact hsz) (by simp);refine on_ h ?_;rintro w1 ⟨h1,h2⟩;refine⟨rfl,?_,kE hW h2⟩;rw[<-eF];exact h1
theorem t_(B bs cap:Nat)(ss:List ByteArray)(L:List UInt8)(w:fV)(hW:Wr w B L)(hb:B<bs)
  (hsrc:w.heap[bs]?=some (.cells (ss.map Value.string).toArray 9 (0,0))) (hsz:L.length+(WC ss).length<=1099511627776) (hn:ss.length<=1099511627776):
  f_ Vh 202 #[p_ B,.slice (some (a_ bs 0)) ss.length cap] w fun e w'=>
   e=.returned (.tuple #[])/\Wr w' B (L++WC ss)/\Kept B w w':=by
 have HS:=Fe hsrc;clear hsrc;go_enter func202,ntmps202;go_wp2;go_loopw [8] (fun i wr=>∃k:Nat,k<=ss.length/\i=Vb Vg k/\Hid (Wr wr B (L++WC (ss.take k)))/\Hid (Kept B w wr)) (fun i _=>ss.length-(intOf i).toNat)
 case atStart=>exact⟨0,bp3 _,rfl,Fe (by simpa[WC]using hW),Fe (Kept.refl _ _)⟩
 obtain⟨k,hk,rfl,H1,H2⟩:=hrel;rename fV=>wr
 by_cases hlt:k<ss.length
 ·have hsr:=H2.others _ _ _ _ hb HS (by decide)
  have hcs:wr.cell? (a_ bs k)=some (.string ss[k]):=by
   rw[bn0 wr bs k _ _ _ hsr];simp[hlt]
  have hlt':(k:Int)<(ss.length:Int):=by omega
  have HT:=Fe (al3 ss k hlt);have hle:=ZV ss (k+1);rw[gB HT,bn6,bn6,jc]at hle;obtain⟨s,hs⟩:=ex_ (ss[k]);rw[<-hs]at hcs HT hle;simp only[bn5,bp6]at hle;have HC:=Fe (aq5 B wr.heap.size s ⟨#[0]⟩ _ wr H1 rfl (by rw[bn6];show _+(_+1)<=_;omega));clear hsr hs hle;go_wp2_with fail;refine on_ HC ?_;rintro w1 ⟨h1,h2⟩;have K1:=Fe h1;have K2:=Fe (H2.trans h2);clear h1 h2 HC hcs;go_wp2;go_roundw
  case rel=>exact⟨k+1,by omega,by go_num,Fe (by rw[gB HT,<-bq1];exact K1),K2⟩
  simp[intOf];omega
 have e:k=ss.length:=by omega
 subst e;have h1:=gB H1;rw[br0]at h1;have HF:=Fe h1;clear h1;go_wp2;go_end0;exact⟨rfl,HF,H2⟩
theorem ar1(B bs:Nat)(s:ByteArray)(L:List UInt8)(w:fV)(hW:Wr w B L)(hbs:bs=w.heap.size)(hsz:L.length+s.size<=1099511620000):
  f_ Vh 202 #[p_ B,.slice (some (a_ bs 0)) 1 1] (w.alloc (.cells #[.string s] 9)) fun e w'=>
   e=.returned (.tuple #[])/\Wr w' B (L++(s.data.toList++ [0]))/\Kept B w w':=by
 subst hbs;have eF:WC [s]=s.data.toList++ [0]:=by simp[WC]
 have h:=t_ B w.heap.size 1 [s] L _ (hW.alloc (.cells #[.string s] 9)) hW.lt (bn3 w _) (by rw[eF,bn6,jc];simp;omega) (by simp);refine on_ h ?_;rintro w1 ⟨h1,h2⟩;refine⟨rfl,?_,kE hW h2⟩;rw[<-eF];exact h1
theorem aa0(B bs:Nat)(s t:ByteArray)(L:List UInt8)(w:fV)(hW:Wr w B L)(hbs:bs=w.heap.size)(hsz:L.length+(s.size+t.size)<=1099511620000):
  f_ Vh 202 #[p_ B,.slice (some (a_ bs 0)) 2 2] (w.alloc (.cells #[.string s,.string t] 9)) fun e w'=>
   e=.returned (.tuple #[])/\Wr w' B (L++(s.data.toList++ [0]++(t.data.toList++ [0])))/\Kept B w w':=by
 subst hbs;have eF:WC [s,t]=s.data.toList++ [0]++(t.data.toList++ [0]):=by simp[WC]
 have h:=t_ B w.heap.size 2 [s,t] L _ (hW.alloc (.cells #[.string s,.string t] 9)) hW.lt (bn3 w _) (by rw[eF];simp only[bn6,jc,bn5,bp6];omega) (by simp);refine on_ h ?_;rintro w1 ⟨h1,h2⟩;refine⟨rfl,?_,kE hW h2⟩;rw[<-eF];exact h1
theorem Ze(B:Nat)(a:Option Addr)(cap:Nat)(fs:pO)(L:List UInt8)(w:fV)(hW:Wr w B L)(hA:X9 w a fs)(hB:∀ad,a=some ad->0<fs.length->ad.block<B)(hl:lF fs<=2097152)(hL:L.length<=2097152):
  f_ Vh 203 #[p_ B,.slice a fs.length cap,Vb Vg 1472] w fun e w'=>
   e=.returned (.tuple #[])/\Kept B w w'/\∃M,Wr w' B M/\M.length<=8388608/\(M=L++nW fs∨(1472<M.length/\1472<(L++nW fs).length)):=by
 have HA:=Fe hA;have HB:=Fe hB;have hBl:=hW.lt;have hlen:fs.length<=lF fs:=by unfold lF;omega
 have HW:=Fe hW;clear hA hB hW;go_enter func203,ntmps203;go_wp2;go_loopw [10] (fun i wr=>∃k:Nat,k<=fs.length/\i=Vb Vg k/\Hid (Wr wr B (L++nW (fs.take k)))/\Hid (Kept B w wr)) (fun i _=>fs.length-(intOf i).toNat)
 case atStart=>exact⟨0,bp3 _,rfl,Fe (by simpa[nW]using gB HW),Fe (Kept.refl _ _)⟩
 obtain⟨k,hk,rfl,H1,H2⟩:=hrel;rename fV=>wr;obtain⟨v,hv,hown⟩:=gB H1;obtain⟨ao,cp,hv'⟩:=wV hown;have hB2:=bo2 hv;have hc:=bp1 hv;rw[hv']at hc;have hMl:(L++nW (fs.take k)).length<=6291456:=by
  have h1:=SF fs k;have h2:=Qo fs;rw[bn6];omega
 by_cases hlt:k<fs.length
 ·obtain⟨ad,rfl,c0,c1⟩:=HA.lower H2.below HB k hlt
  have hlt':(k:Int)<(fs.length:Int):=by omega
  obtain⟨n,x,hnx⟩:∃n x,fs[k]=(n,x):=⟨_,_,rfl⟩;rw[hnx]at c0 c1;have hd:n.length+x.length<=2097152:=by have:=Ro fs k hlt;rw[hnx]at this;simp only at this;omega
  have HT:=Fe (QV fs k hlt);rw[hnx]at HT;obtain⟨X,hX⟩:∃X,L++nW (fs.take k)=X:=⟨_,rfl⟩;rw[hX]at hc hMl;have HX:=Fe hX;have H1':Hid (Wr wr B X):=Fe (by rw[<-gB HX];exact H1);obtain⟨ns,hns⟩:∃s:ByteArray,s=⟨n.toArray⟩:=⟨_,rfl⟩;obtain⟨xs,hxs⟩:∃s:ByteArray,s=⟨x.toArray⟩:=⟨_,rfl⟩;have hnz:ns.size=n.length:=by rw[hns,gL]
  have hxz:xs.size=x.length:=by rw[hxs,gL]
  rw[<-hns]at c0;rw[<-hxs]at c1;have HF:Hid (ns.data.toList++ [0]++(xs.data.toList++ [0])=Uu (n,x)):=Fe (by rw[hns,hxs];rfl);have HP:=Fe (fun(u:fV) (hu:Wr u B X) (b:Nat) (hb:b=u.heap.size)=>aa0 B b ns xs X u hu hb (by omega));clear hv hown hv' hX hnx v H1 hns hxs hnz hxz
  by_cases hbig:1472<X.length
  ·have hgt:(1472:Int)<(X.length:Int):=by omega
   go_wp2;go_end0;refine⟨rfl,H2.trans ((Kept.refl B wr).alloc (by omega) _),X,H1'.alloc _,by omega,bo3 ⟨hbig,?_⟩⟩;have h1:=SF fs k;rw[<-gB HX,bn6]at hbig;simp only[bn6];omega
  have hgt: ¬(1472:Int)<(X.length:Int):=by omega
  go_wp2_with fail;refine on_ (HP _ (H1'.alloc _) _ (by simp)) ?_;rintro u ⟨k1,q1⟩;have K1:=Fe k1;have Q1:=Fe q1;clear k1 q1;go_wp2;go_roundw
  case rel=>exact⟨k+1,by omega,by go_num,Fe (by rw[gB HT,<-bq1,gB HX,<-gB HF];exact K1),Fe (H2.trans (((Kept.refl B wr).alloc (by omega) _).trans Q1))⟩
  simp[intOf];omega
 have e:k=fs.length:=by omega
 subst e;rw[br0]at hMl;have h1':=gB H1;rw[br0]at h1';have HE:=Fe h1';clear hv hown hv' hc v h1';go_wp2;go_end0;exact⟨rfl,H2,_,HE,by omega,bo1 rfl⟩
theorem Jp(o bl:Int)(ts ds:ByteArray)(fa:Option Addr)(fc:Nat)(m:RH)(w:fV)(hop:(m.op:Int)=o)(hts:ts.data.toList=m.text)(hA:X9 w fa m.fs)(hl:lF m.fs<=2097152)(ht:m.text.length<=2097152):
  f_ Vh 167 #[.agg (rG o bl ts ds fa m.fs.length fc)] w fun e w'=>e=.returned (.bool (RS m))/\gm w.heap.size w w':=by
 obtain⟨W,hWW⟩:=ex_ (w.alloc (.cells (rG o bl ts ds fa m.fs.length fc) 96));have hW0:gm w.heap.size w W:=by rw[hWW];exact(bn9 _ _).alloc (bn7 _) _
 have hWz:w.heap.size<=W.heap.size:=hW0.size;have HI:=Fe (lI ts m.text W hts (by omega));have HF:=Fe (as9 fa fc m.fs W (hA.below hW0 (bn7 _)) (by omega));have HC:=Fe (Sf.strings_Contains_one ts 0 W);rw[hts,index_le]at HC;have HW0:=Fe hW0;have HWW:=Fe hWW;have hbox:∀j,W.cell? (a_ w.heap.size j)=(rG o bl ts ds fa m.fs.length fc)[j]?:=fun j=>by rw[hWW,bn0 _ w.heap.size j _ _ (0,0) (bn3 w _)]
 clear hW0 hA hWW
 by_cases e1:o=1
 ·subst e1
  have HT:Hid (RS m=(iM m.text && yK m.fs)):=Fe (by unfold RS;rw[bp0 (by omega)]);clear hop;go_enter func167,ntmps167;go_wp2_with fail;rw[<-gB HWW];refine HI.mono ?_;rintro e u ⟨rfl,rfl⟩
  by_cases hn:iM m.text=true
  ·rw[hn,Bool.true_and]at HT
   rw[hn];rw[gB HWW];go_wp2_with fail;rw[<-gB HWW];refine on_ HF fun u hb=>?_;have HB:Hid (gm w.heap.size w u):=Fe (HW0.trans (hb.mono hWz));clear hb;go_wp2;go_ret;exact⟨by rw[gB HT];rfl,HB⟩
  have hn':iM m.text=false:=by simpa using hn
  rw[hn',Bool.false_and]at HT;rw[hn',gB HWW];go_wp2;go_ret;exact⟨by rw[gB HT];rfl,by rw[<-gB HWW];exact gB HW0⟩
 by_cases e6:o=6
 ·subst e6
  have HT:Hid (RS m=yK m.fs):=Fe (by unfold RS;rw[show m.op=6 by omega];rfl);clear hop e1;go_enter func167,ntmps167;go_wp2_with fail;rw[<-gB HWW];refine on_ HF fun u hb=>?_;have HB:Hid (gm w.heap.size w u):=Fe (HW0.trans (hb.mono hWz));clear hb;go_wp2;go_ret;exact⟨by rw[gB HT];rfl,HB⟩
 have q1:(o==1)=false:=by simpa using e1
 have q6:(o==6)=false:=by simpa using e6
 by_cases e5:o=5
 ·subst e5
  have HT:Hid (RS m= !m.text.contains 0):=Fe (by unfold RS;rw[show m.op=5 by omega];rfl);clear hop e1 e6;go_enter func167,ntmps167;go_wp2_with fail;rw[<-gB HWW];refine HC.mono ?_;rintro e u ⟨rfl,rfl⟩;obtain⟨b,hb⟩:=ex_ (m.text.contains 0);rw[<-hb]at HT ⊢;rw[gB HWW];clear hb;go_wp2;go_ret;exact⟨by rw[gB HT];rfl,by rw[<-gB HWW];exact gB HW0⟩
 have q5:(o==5)=false:=by simpa using e5
 by_cases e3:o=3
 ·subst e3
  have HT:Hid (RS m=true):=Fe (by unfold RS;rw[show m.op=3 by omega];rfl);clear hop e1 e6 e5;go_enter func167,ntmps167;go_wp2;go_ret;exact⟨by rw[gB HT];rfl,by rw[<-gB HWW];exact gB HW0⟩
 have q3:(o==3)=false:=by simpa using e3
 by_cases e4:o=4
 ·subst e4
  have HT:Hid (RS m=true):=Fe (by unfold RS;rw[show m.op=4 by omega];rfl);clear hop e1 e6 e5 e3;go_enter func167,ntmps167;go_wp2;go_ret;exact⟨by rw[gB HT];rfl,by rw[<-gB HWW];exact gB HW0⟩
 have q4:(o==4)=false:=by simpa using e4
 have HT:Hid (RS m=false):=Fe (by
  unfold RS
  rw[bo4 (by omega),bo4 (by omega),bo4 (by omega)]
  have h3: ¬m.op=3:=by omega
  have h4: ¬m.op=4:=by omega
  simp[h3,h4])
 clear hop e1 e6 e5 e3 e4;go_enter func167,ntmps167;go_wp2;go_ret;exact⟨by rw[gB HT];rfl,by rw[<-gB HWW];exact gB HW0⟩
theorem at7(n:Nat):iy (n:Int)=TU n:=by
 unfold iy TU;have h1:gJ ((n:Int)/256)=UInt8.ofNat (n/256):=by
  apply bB5.1;have h:=lh ((n:Int)/256);rw[bx9];omega
 have h2:gJ (n:Int)=UInt8.ofNat n:=by
  apply bB5.1;have h:=lh (n:Int);rw[bx9];omega
 rw[h1,h2]
theorem WO{n:Nat}{x:Int}(h:(n:Int)=x):iy x=TU n:=by rw[<-h];exact at7 n
theorem V_(n:Nat):(TU n).length=2:=rfl
theorem aJ5(B:Nat)(bl:Int)(ts ds:ByteArray)(fa:Option Addr)(fc:Nat)(m:RH)(w:fV)(hW:Wr w B [])(hop:m.op=6)(hbl:(m.block:Int)=bl)(hb0:0<=bl)(hb1:bl<=65535)(hts:ts.data.toList=m.text)(hds:ds.data.toList=m.data)(hA:X9 w fa m.fs)(hB:∀ad,fa=some ad->0<m.fs.length->ad.block<B)(hl:lF m.fs<=1048576)(ht:m.text.length<=1048576)(hd:m.data.length<=1048576):
  f_ Vh 168 #[p_ B,.agg (rG 6 bl ts ds fa m.fs.length fc)] w fun e w'=>
   e=.returned (.tuple #[])/\Kept B w w'/\∃M,Wr w' B M/\M.length<=8388608/\(M=Mq m∨(1472<M.length/\1472<(Mq m).length)):=by
 obtain⟨W,hWW⟩:=ex_ (w.alloc (.cells (rG 6 bl ts ds fa m.fs.length fc) 96));have hbB:=hW.lt;have hbox:W.heap[w.heap.size]?=some (.cells (rG 6 bl ts ds fa m.fs.length fc) 96 (0,0)):=by rw[hWW];exact bn3 w _
 have HC:Hid (∀wr,Kept B W wr->∀j,wr.cell? (a_ w.heap.size j)=(rG 6 bl ts ds fa m.fs.length fc)[j]?):=Fe (fun wr hK j=>by
  rw[bn0 wr w.heap.size j _ _ _ (hK.others _ _ _ _ hbB hbox (by decide))])
 have HW1:Hid (Wr W B []):=Fe (by rw[hWW];exact hW.alloc _);have HK0:Hid (Kept B w W):=Fe (by rw[hWW];exact(Kept.refl B w).alloc (by omega) _);have hzt:ts.size=m.text.length:=by rw[<-hts,jc]
 have hzd:ds.size=m.data.length:=by rw[<-hds,jc]
 have HA:=Fe hA;have HB:=Fe hB;have HTS:=Fe hts;have HDS:=Fe hds;have HOP:=Fe hop;have HBL:=Fe hbl;have HWW:=Fe hWW;clear hbox hW hA hB hts hds hop hbl hWW;go_enter func168,ntmps168;go_wp2_with fail;rw[<-gB HWW];refine on_ (We B _ 6 [] W HW1 (by rw[gB HWW];simp) (by decide) (by decide) (by simp)) ?_;rintro w1 ⟨k1,q1⟩;have K1:Hid (Wr w1 B (TU 6)):=Fe (by rw[<-WO (n:=6) (x:=6) rfl];simpa using k1);have Q1:=Fe q1;have hcc:=HC w1 q1;clear k1 q1 HW1;have HF:=Fe (Ze B fa fc m.fs (TU 6) w1 K1 (HA.lower (HK0.trans Q1).below HB) HB (by omega) (by simp[V_]));go_wp2_with fail;refine on_ HF ?_;rintro w9 ⟨q9,M,k9,l9,h9⟩;have K9:=Fe k9;have Q9:=Fe q9;have H9:=Fe h9;clear k9 q9 h9 HF;go_wp2;go_end0;refine⟨rfl,HK0.trans (Q1.trans Q9),M,K9,l9,?_⟩;have h9:=gB H9;have eb:Mq m=TU 6++nW m.fs:=by unfold Mq;rw[gB HOP];rfl
 rw[eb];exact h9
theorem aI1(B:Nat)(bl:Int)(ts ds:ByteArray)(fa:Option Addr)(fc:Nat)(m:RH)(w:fV)(hW:Wr w B [])(hop:m.op=1)(hbl:(m.block:Int)=bl)(hb0:0<=bl)(hb1:bl<=65535)(hts:ts.data.toList=m.text)(hds:ds.data.toList=m.data)(hA:X9 w fa m.fs)(hB:∀ad,fa=some ad->0<m.fs.length->ad.block<B)(hl:lF m.fs<=1048576)(ht:m.text.length<=1048576)(hd:m.data.length<=1048576):
  f_ Vh 168 #[p_ B,.agg (rG 1 bl ts ds fa m.fs.length fc)] w fun e w'=>
   e=.returned (.tuple #[])/\Kept B w w'/\∃M,Wr w' B M/\M.length<=8388608/\(M=Mq m∨(1472<M.length/\1472<(Mq m).length)):=by
 obtain⟨W,hWW⟩:=ex_ (w.alloc (.cells (rG 1 bl ts ds fa m.fs.length fc) 96));have hbB:=hW.lt;have hbox:W.heap[w.heap.size]?=some (.cells (rG 1 bl ts ds fa m.fs.length fc) 96 (0,0)):=by rw[hWW];exact bn3 w _
 have HC:Hid (∀wr,Kept B W wr->∀j,wr.cell? (a_ w.heap.size j)=(rG 1 bl ts ds fa m.fs.length fc)[j]?):=Fe (fun wr hK j=>by
  rw[bn0 wr w.heap.size j _ _ _ (hK.others _ _ _ _ hbB hbox (by decide))])
 have HW1:Hid (Wr W B []):=Fe (by rw[hWW];exact hW.alloc _);have HK0:Hid (Kept B w W):=Fe (by rw[hWW];exact(Kept.refl B w).alloc (by omega) _);have hzt:ts.size=m.text.length:=by rw[<-hts,jc]
 have hzd:ds.size=m.data.length:=by rw[<-hds,jc]
 have HA:=Fe hA;have HB:=Fe hB;have HTS:=Fe hts;have HDS:=Fe hds;have HOP:=Fe hop;have HBL:=Fe hbl;have HWW:=Fe hWW;clear hbox hW hA hB hts hds hop hbl hWW;go_enter func168,ntmps168;go_wp2_with fail;rw[<-gB HWW];refine on_ (We B _ 1 [] W HW1 (by rw[gB HWW];simp) (by decide) (by decide) (by simp)) ?_;rintro w1 ⟨k1,q1⟩;have K1:Hid (Wr w1 B (TU 1)):=Fe (by rw[<-WO (n:=1) (x:=1) rfl];simpa using k1);have Q1:=Fe q1;have hcc:=HC w1 q1;clear k1 q1 HW1;go_wp2_with fail;refine on_ (aa0 B _ ts ⟨#[111,99,116,101,116]⟩ _ w1 K1 rfl (by rw[V_];show 2+(ts.size+5)<=_;omega)) ?_;rintro w2 ⟨k2,q2⟩;have K2:Hid (Wr w2 B (TU 1++(m.text++ [0]++(Qy++ [0])))):=Fe (by rw[<-gB HTS];exact k2);have Q2:=Fe (Q1.trans q2);have hcc2:=HC w2 Q2;clear k2 q2 K1 hcc Q1;have HF:=Fe (Ze B fa fc m.fs (TU 1++(m.text++ [0]++(Qy++ [0]))) w2 K2 (HA.lower (HK0.trans Q2).below HB) HB (by omega) (by simp[V_,Qy];omega));go_wp2_with fail;refine on_ HF ?_;rintro w9 ⟨q9,M,k9,l9,h9⟩;have K9:=Fe k9;have Q9:=Fe q9;have H9:=Fe h9;clear k9 q9 h9 HF;go_wp2;go_end0;refine⟨rfl,HK0.trans (Q2.trans Q9),M,K9,l9,?_⟩;have h9:=gB H9;have eb:Mq m=TU 1++(m.text++ [0]++(Qy++ [0]))++nW m.fs:=by unfold Mq;rw[gB HOP];simp
 rw[eb];exact h9
theorem aK5(B:Nat)(bl:Int)(ts ds:ByteArray)(fa:Option Addr)(fc:Nat)(m:RH)(w:fV)(hW:Wr w B [])(hop:m.op=4)(hbl:(m.block:Int)=bl)(hb0:0<=bl)(hb1:bl<=65535)(hts:ts.data.toList=m.text)(hds:ds.data.toList=m.data)(hA:X9 w fa m.fs)(hB:∀ad,fa=some ad->0<m.fs.length->ad.block<B)(hl:lF m.fs<=1048576)(ht:m.text.length<=1048576)(hd:m.data.length<=1048576):
  f_ Vh 168 #[p_ B,.agg (rG 4 bl ts ds fa m.fs.length fc)] w fun e w'=>
   e=.returned (.tuple #[])/\Kept B w w'/\∃M,Wr w' B M/\M.length<=8388608/\(M=Mq m∨(1472<M.length/\1472<(Mq m).length)):=by
 obtain⟨W,hWW⟩:=ex_ (w.alloc (.cells (rG 4 bl ts ds fa m.fs.length fc) 96));have hbB:=hW.lt;have hbox:W.heap[w.heap.size]?=some (.cells (rG 4 bl ts ds fa m.fs.length fc) 96 (0,0)):=by rw[hWW];exact bn3 w _
 have HC:Hid (∀wr,Kept B W wr->∀j,wr.cell? (a_ w.heap.size j)=(rG 4 bl ts ds fa m.fs.length fc)[j]?):=Fe (fun wr hK j=>by
  rw[bn0 wr w.heap.size j _ _ _ (hK.others _ _ _ _ hbB hbox (by decide))])
 have HW1:Hid (Wr W B []):=Fe (by rw[hWW];exact hW.alloc _);have HK0:Hid (Kept B w W):=Fe (by rw[hWW];exact(Kept.refl B w).alloc (by omega) _);have hzt:ts.size=m.text.length:=by rw[<-hts,jc]
 have hzd:ds.size=m.data.length:=by rw[<-hds,jc]
 have HA:=Fe hA;have HB:=Fe hB;have HTS:=Fe hts;have HDS:=Fe hds;have HOP:=Fe hop;have HBL:=Fe hbl;have HWW:=Fe hWW;clear hbox hW hA hB hts hds hop hbl hWW;go_enter func168,ntmps168;go_wp2_with fail;rw[<-gB HWW];refine on_ (We B _ 4 [] W HW1 (by rw[gB HWW];simp) (by decide) (by decide) (by simp)) ?_;rintro w1 ⟨k1,q1⟩;have K1:Hid (Wr w1 B (TU 4)):=Fe (by rw[<-WO (n:=4) (x:=4) rfl];simpa using k1);have Q1:=Fe q1;have hcc:=HC w1 q1;clear k1 q1 HW1;go_wp2_with fail;refine on_ (We B _ bl _ w1 K1 rfl hb0 hb1 (by simp[V_])) ?_;rintro w2 ⟨k2,q2⟩;have K2:Hid (Wr w2 B (TU m.op++TU m.block)):=Fe (by rw[gB HOP,<-WO HBL];exact k2);have Q2:=Fe (Q1.trans q2);have hcc2:=HC w2 Q2;clear k2 q2 K1 hcc Q1;go_wp2;go_end0;refine⟨rfl,HK0.trans Q2,_,K2,by simp[V_],bo1 ?_⟩;unfold Mq;rw[gB HOP];rfl
theorem aK2(B:Nat)(bl:Int)(ts ds:ByteArray)(fa:Option Addr)(fc:Nat)(m:RH)(w:fV)(hW:Wr w B [])(hop:m.op=3)(hbl:(m.block:Int)=bl)(hb0:0<=bl)(hb1:bl<=65535)(hts:ts.data.toList=m.text)(hds:ds.data.toList=m.data)(hA:X9 w fa m.fs)(hB:∀ad,fa=some ad->0<m.fs.length->ad.block<B)(hl:lF m.fs<=1048576)(ht:m.text.length<=1048576)(hd:m.data.length<=1048576):
  f_ Vh 168 #[p_ B,.agg (rG 3 bl ts ds fa m.fs.length fc)] w fun e w'=>
   e=.returned (.tuple #[])/\Kept B w w'/\∃M,Wr w' B M/\M.length<=8388608/\(M=Mq m∨(1472<M.length/\1472<(Mq m).length)):=by
 obtain⟨W,hWW⟩:=ex_ (w.alloc (.cells (rG 3 bl ts ds fa m.fs.length fc) 96));have hbB:=hW.lt;have hbox:W.heap[w.heap.size]?=some (.cells (rG 3 bl ts ds fa m.fs.length fc) 96 (0,0)):=by rw[hWW];exact bn3 w _
 have HC:Hid (∀wr,Kept B W wr->∀j,wr.cell? (a_ w.heap.size j)=(rG 3 bl ts ds fa m.fs.length fc)[j]?):=Fe (fun wr hK j=>by
  rw[bn0 wr w.heap.size j _ _ _ (hK.others _ _ _ _ hbB hbox (by decide))])
 have HW1:Hid (Wr W B []):=Fe (by rw[hWW];exact hW.alloc _);have HK0:Hid (Kept B w W):=Fe (by rw[hWW];exact(Kept.refl B w).alloc (by omega) _);have hzt:ts.size=m.text.length:=by rw[<-hts,jc]
 have hzd:ds.size=m.data.length:=by rw[<-hds,jc]
 have HA:=Fe hA;have HB:=Fe hB;have HTS:=Fe hts;have HDS:=Fe hds;have HOP:=Fe hop;have HBL:=Fe hbl;have HWW:=Fe hWW;clear hbox hW hA hB hts hds hop hbl hWW;go_enter func168,ntmps168;go_wp2_with fail;rw[<-gB HWW];refine on_ (We B _ 3 [] W HW1 (by rw[gB HWW];simp) (by decide) (by decide) (by simp)) ?_;rintro w1 ⟨k1,q1⟩;have K1:Hid (Wr w1 B (TU 3)):=Fe (by rw[<-WO (n:=3) (x:=3) rfl];simpa using k1);have Q1:=Fe q1;have hcc:=HC w1 q1;clear k1 q1 HW1;go_wp2_with fail;refine on_ (We B _ bl _ w1 K1 rfl hb0 hb1 (by simp[V_])) ?_;rintro w2 ⟨k2,q2⟩;have K2:Hid (Wr w2 B (TU m.op++TU m.block)):=Fe (by rw[gB HOP,<-WO HBL];exact k2);have Q2:=Fe (Q1.trans q2);have hcc2:=HC w2 Q2;clear k2 q2 K1 hcc Q1;go_wp2_with fail;refine on_ (jC B _ ds _ w2 K2 rfl (by simp[V_];omega)) ?_;rintro w3 ⟨k3,q3⟩;have K3:Hid (Wr w3 B (TU m.op++TU m.block++m.data)):=Fe (by rw[<-gB HDS];exact k3);have Q3:=Fe (Q2.trans q3);clear k3 q3;go_wp2;go_end0;refine⟨rfl,HK0.trans Q3,_,K3,by simp[V_];omega,bo1 ?_⟩;unfold Mq;rw[gB HOP];simp
theorem aJ4(B:Nat)(bl:Int)(ts ds:ByteArray)(fa:Option Addr)(fc:Nat)(m:RH)(w:fV)(hW:Wr w B [])(hop:m.op=5)(hbl:(m.block:Int)=bl)(hb0:0<=bl)(hb1:bl<=65535)(hts:ts.data.toList=m.text)(hds:ds.data.toList=m.data)(hA:X9 w fa m.fs)(hB:∀ad,fa=some ad->0<m.fs.length->ad.block<B)(hl:lF m.fs<=1048576)(ht:m.text.length<=1048576)(hd:m.data.length<=1048576):
  f_ Vh 168 #[p_ B,.agg (rG 5 bl ts ds fa m.fs.length fc)] w fun e w'=>
   e=.returned (.tuple #[])/\Kept B w w'/\∃M,Wr w' B M/\M.length<=8388608/\(M=Mq m∨(1472<M.length/\1472<(Mq m).length)):=by
 obtain⟨W,hWW⟩:=ex_ (w.alloc (.cells (rG 5 bl ts ds fa m.fs.length fc) 96));have hbB:=hW.lt;have hbox:W.heap[w.heap.size]?=some (.cells (rG 5 bl ts ds fa m.fs.length fc) 96 (0,0)):=by rw[hWW];exact bn3 w _
 have HC:Hid (∀wr,Kept B W wr->∀j,wr.cell? (a_ w.heap.size j)=(rG 5 bl ts ds fa m.fs.length fc)[j]?):=Fe (fun wr hK j=>by
  rw[bn0 wr w.heap.size j _ _ _ (hK.others _ _ _ _ hbB hbox (by decide))])
 have HW1:Hid (Wr W B []):=Fe (by rw[hWW];exact hW.alloc _);have HK0:Hid (Kept B w W):=Fe (by rw[hWW];exact(Kept.refl B w).alloc (by omega) _);have hzt:ts.size=m.text.length:=by rw[<-hts,jc]
 have hzd:ds.size=m.data.length:=by rw[<-hds,jc]
 have HA:=Fe hA;have HB:=Fe hB;have HTS:=Fe hts;have HDS:=Fe hds;have HOP:=Fe hop;have HBL:=Fe hbl;have HWW:=Fe hWW;clear hbox hW hA hB hts hds hop hbl hWW;go_enter func168,ntmps168;go_wp2_with fail;rw[<-gB HWW];refine on_ (We B _ 5 [] W HW1 (by rw[gB HWW];simp) (by decide) (by decide) (by simp)) ?_;rintro w1 ⟨k1,q1⟩;have K1:Hid (Wr w1 B (TU 5)):=Fe (by rw[<-WO (n:=5) (x:=5) rfl];simpa using k1);have Q1:=Fe q1;have hcc:=HC w1 q1;clear k1 q1 HW1;go_wp2_with fail;refine on_ (We B _ bl _ w1 K1 rfl hb0 hb1 (by simp[V_])) ?_;rintro w2 ⟨k2,q2⟩;have K2:Hid (Wr w2 B (TU m.op++TU m.block)):=Fe (by rw[gB HOP,<-WO HBL];exact k2);have Q2:=Fe (Q1.trans q2);have hcc2:=HC w2 Q2;clear k2 q2 K1 hcc Q1;go_wp2_with fail;refine on_ (ar1 B _ ts _ w2 K2 rfl (by simp[V_];omega)) ?_;rintro w3 ⟨k3,q3⟩;have K3:Hid (Wr w3 B (TU m.op++TU m.block++(m.text++ [0]))):=Fe (by rw[<-gB HTS];exact k3);have Q3:=Fe (Q2.trans q3);clear k3 q3;go_wp2;go_end0;refine⟨rfl,HK0.trans Q3,_,K3,by simp[V_];omega,bo1 ?_⟩;unfold Mq;rw[gB HOP];simp
theorem X8(s:ByteArray)(w:fV):f_ Vh 166 #[.string s] w fun e w'=>e=.returned (.bool (decide ((s.size:Int)<=1024)))/\w=w':=by
 go_enter func166,ntmps166;go_wp2;go_ret;exact⟨rfl,rfl⟩
theorem aD0{m:RH}(h:RS m=true):m.op=1∨m.op=3∨m.op=4∨m.op=5∨m.op=6:=by
 unfold RS at h
 by_cases h1:m.op=1
 ·exact .inl h1
 rw[bo4 h1]at h
 by_cases h6:m.op=6
 ·exact .inr (.inr (.inr (.inr h6)))
 rw[bo4 h6]at h
 by_cases h5:m.op=5
 ·exact .inr (.inr (.inr (.inl h5)))
 rw[bo4 h5]at h;simp at h
 rcases h with h|h
 ·exact .inr (.inl h)
 exact .inr (.inr (.inl h))
theorem ay8(B:Nat)(o bl:Int)(ts ds:ByteArray)(fa:Option Addr)(fc:Nat)(m:RH)(w:fV)(hW:Wr w B [])(hop:(m.op:Int)=o)(htold:RS m=true)(hbl:(m.block:Int)=bl)(hb0:0<=bl)(hb1:bl<=65535)(hts:ts.data.toList=m.text)(hds:ds.data.toList=m.data)(hA:X9 w fa m.fs)(hB:∀ad,fa=some ad->0<m.fs.length->ad.block<B)(hl:lF m.fs<=1048576)(ht:m.text.length<=1048576)(hd:m.data.length<=1048576):
  f_ Vh 168 #[p_ B,.agg (rG o bl ts ds fa m.fs.length fc)] w fun e w'=>
   e=.returned (.tuple #[])/\Kept B w w'/\∃M,Wr w' B M/\M.length<=8388608/\(M=Mq m∨(1472<M.length/\1472<(Mq m).length)):=by
 rcases aD0 htold with h|h|h|h|h
 ·obtain rfl:o=1:=by omega
  exact aI1 B bl ts ds fa fc m w hW h hbl hb0 hb1 hts hds hA hB hl ht hd
 ·obtain rfl:o=3:=by omega
  exact aK2 B bl ts ds fa fc m w hW h hbl hb0 hb1 hts hds hA hB hl ht hd
 ·obtain rfl:o=4:=by omega
  exact aK5 B bl ts ds fa fc m w hW h hbl hb0 hb1 hts hds hA hB hl ht hd
 ·obtain rfl:o=5:=by omega
  exact aJ4 B bl ts ds fa fc m w hW h hbl hb0 hb1 hts hds hA hB hl ht hd
 obtain rfl:o=6:=by omega
 exact aJ5 B bl ts ds fa fc m w hW h hbl hb0 hb1 hts hds hA hB hl ht hd
theorem qI(w:fV):Wr (w.alloc (.cells #[.slice none 0 0] 182)) w.heap.size []:=⟨_,bn3 w _,bq3 _ _ _ _⟩
theorem X_{s t:ByteArray}{a b:Int}(h:s=t)(k:a=b):Ending.returned (.tuple #[.string s,Vb Vg a])=.returned (.tuple #[.string t,Vb Vg b]):=by rw[h,k]
theorem Z7(o bl:Int)(ts ds:ByteArray)(fa:Option Addr)(fc:Nat)(m:RH)(w:fV)(hop:(m.op:Int)=o)(hbl:(m.block:Int)=bl)(hb0:0<=bl)(hb1:bl<=65535)(hts:ts.data.toList=m.text)(hds:ds.data.toList=m.data)(hA:X9 w fa m.fs)(hl:lF m.fs<=1048576)(ht:m.text.length<=1048576)(hd:m.data.length<=1048576):
  f_ Vh 128 #[.agg (rG o bl ts ds fa m.fs.length fc)] w fun e w'=>
   e=.returned (.tuple #[.string ⟨(U7 m).toArray⟩,Vb Vg (UU m)])/\gm w.heap.size w w':=by
 obtain⟨W,hWW⟩:=ex_ (w.alloc (.cells (rG o bl ts ds fa m.fs.length fc) 96));have hW0:gm w.heap.size w W:=by rw[hWW];exact(bn9 _ _).alloc (bn7 _) _
 have hWz:W.heap.size=w.heap.size+1:=by rw[hWW];simp
 have hbox:∀j,W.cell? (a_ w.heap.size j)=(rG o bl ts ds fa m.fs.length fc)[j]?:=fun j=>by rw[hWW,bn0 _ w.heap.size j _ _ (0,0) (bn3 w _)]
 have hdz:ds.size=m.data.length:=by rw[<-hds,jc]
 have HM:=Fe (Jp o bl ts ds fa fc m W hop hts (hA.below hW0 (bn7 _)) (by omega) (by omega));have HA:=Fe hA;have HW0:=Fe hW0;have HWZ:=Fe hWz;have HBX:=Fe hbox;have HWW:=Fe hWW;have HTS:=Fe hts;have HDS:=Fe hds;have HOP:=Fe hop;have HBL:=Fe hbl;clear hW0 hWz hbox hA hWW hts hds hop hbl;go_enter func128,ntmps128;go_wp2_with fail;rw[<-gB HWW];refine on_ HM fun w1 hb1'=>?_;have hz1:w.heap.size+1<=w1.heap.size:=by have:=hb1'.size;rw[gB HWZ]at this;exact this
 have hcc1:∀j,w1.cell? (a_ w.heap.size j)=(rG o bl ts ds fa m.fs.length fc)[j]?:=fun j=>by
  rw[hb1'.cell (p:=(a_ w.heap.size j)) (by show w.heap.size<_;rw[gB HWZ];omega)];exact HBX j
 have HB1:Hid (gm w.heap.size w w1):=Fe (HW0.trans (hb1'.mono (by rw[gB HWZ];omega)));have HC1:=Fe hcc1;clear hb1' HM HWW HW0 HWZ HBX
 by_cases htold:RS m=true
 ·rw[htold]
  have HI:=Fe (X8 ds w1);have HT:=Fe (ay8 w1.heap.size o bl ts ds fa fc m _ (qI w1) HOP htold HBL hb0 hb1 HTS HDS (HA.below (HB1.alloc (by omega) _) (bn7 _)) (HA.old (by omega)) hl ht hd)
  by_cases h3:o=3/\1024<m.data.length
  ·obtain⟨e3,hbig⟩:=h3
   have HK:Hid (UU m=7/\U7 m=[]):=Fe (by
    have hop:=gB HOP
    have:UU m=7:=by unfold UU;rw[htold,bo4 (by simp),bp0 ⟨by omega,hbig⟩]
    exact⟨this,by unfold U7;rw[this];rfl⟩)
   subst e3;have hd2:decide ((ds.size:Int)<=1024)=false:=by rw[bw2];omega
   rw[hd2]at HI;clear hd2 htold HT;go_wp2_with (go_at_call 166;refine HI.mono ?_;rintro e u ⟨rfl,rfl⟩);go_ret2;exact⟨X_ (by rw[HK.2]) (by rw[HK.1];rfl),HB1⟩
  have HN3:Hid (¬(m.op=3/\1024<m.data.length)):=Fe (by have:=gB HOP;omega);have HKT:Hid (UU m=if 1472<(Mq m).length then 7 else 0):=Fe (by unfold UU;rw[htold,bo4 (by simp),bo4 (gB HN3)]);have cont:(o==3)=false∨(o=3/\decide ((ds.size:Int)<=1024)=true):=by
   by_cases e:o=3
   ·exact .inr ⟨e,by rw[decide_eq_true_iff];omega⟩
   exact .inl (by simpa using e)
  clear h3 htold HN3;have hccA:∀j ob,(w1.alloc ob).cell? (a_ w.heap.size j)=(rG o bl ts ds fa m.fs.length fc)[j]?:=fun j ob=>by
   rw[((bn9 w1.heap.size w1).alloc (bn7 _) ob).cell (p:=(a_ w.heap.size j)) (by show w.heap.size<_;omega)];exact HC1 j
  rcases cont with e3|⟨e3,e4⟩
  ·go_wp2_with fail
   refine on_ HT ?_;rintro w2 ⟨q2,M,k2,l2,h2⟩;obtain⟨v,hv,hown⟩:=k2;obtain⟨ao,cp,hv'⟩:=wV hown;have hc2:=bp1 hv;rw[hv']at hc2;have K2:Hid (Wr w2 w1.heap.size M):=Fe ⟨v,hv,hown⟩;have HB2:Hid (gm w.heap.size w w2):=Fe ((HB1.alloc (by omega) _).trans (q2.below.mono (by omega)));have HX:=Fe (lG w1.heap.size M w2 ⟨v,hv,hown⟩);have H2:=Fe h2;clear hv hown hv' q2 h2 v hccA
   by_cases hM:1472<M.length
   ·have hM':(1472:Int)<(M.length:Int):=by omega
    have HK:Hid (UU m=7/\U7 m=[]):=Fe (by
     have:UU m=7:=by
      rw[gB HKT,bp0]
      rcases gB H2 with rfl|⟨_,h⟩
      ·exact hM
      exact h
     exact⟨this,by unfold U7;rw[this];rfl⟩)
    go_wp2;go_ret2;exact⟨X_ (by rw[HK.2]) (by rw[HK.1];rfl),HB2⟩
   have hM': ¬(1472:Int)<(M.length:Int):=by omega
   have HK:Hid (UU m=0/\U7 m=M):=Fe (by
    rcases gB H2 with rfl|⟨h,_⟩
    ·have:UU m=0:=by rw[gB HKT,bo4 hM]
     exact⟨this,by unfold U7;rw[bp0 this]⟩
    exact absurd h hM)
   go_wp2_with fail;refine HX.mono ?_;rintro e w3 ⟨rfl,rfl⟩;go_wp2;go_ret2;exact⟨X_ (by rw[HK.2]) (by rw[HK.1];rfl),HB2⟩
  subst e3;rw[e4]at HI;clear e4;go_wp2_with (go_at_call 166;refine HI.mono ?_;rintro e u ⟨rfl,rfl⟩);refine on_ HT ?_;rintro w2 ⟨q2,M,k2,l2,h2⟩;obtain⟨v,hv,hown⟩:=k2;obtain⟨ao,cp,hv'⟩:=wV hown;have hc2:=bp1 hv;rw[hv']at hc2;have K2:Hid (Wr w2 w1.heap.size M):=Fe ⟨v,hv,hown⟩;have HB2:Hid (gm w.heap.size w w2):=Fe ((HB1.alloc (by omega) _).trans (q2.below.mono (by omega)));have HX:=Fe (lG w1.heap.size M w2 ⟨v,hv,hown⟩);have H2:=Fe h2;clear hv hown hv' q2 h2 v hccA
  by_cases hM:1472<M.length
  ·have hM':(1472:Int)<(M.length:Int):=by omega
   have HK:Hid (UU m=7/\U7 m=[]):=Fe (by
    have:UU m=7:=by
     rw[gB HKT,bp0]
     rcases gB H2 with rfl|⟨_,h⟩
     ·exact hM
     exact h
    exact⟨this,by unfold U7;rw[this];rfl⟩)
   go_wp2;go_ret2;exact⟨X_ (by rw[HK.2]) (by rw[HK.1];rfl),HB2⟩
  have hM': ¬(1472:Int)<(M.length:Int):=by omega
  have HK:Hid (UU m=0/\U7 m=M):=Fe (by
   rcases gB H2 with rfl|⟨h,_⟩
   ·have:UU m=0:=by rw[gB HKT,bo4 hM]
    exact⟨this,by unfold U7;rw[bp0 this]⟩
   exact absurd h hM)
  go_wp2_with fail;refine HX.mono ?_;rintro e w3 ⟨rfl,rfl⟩;go_wp2;go_ret2;exact⟨X_ (by rw[HK.2]) (by rw[HK.1];rfl),HB2⟩
 have ht':RS m=false:=by simpa using htold
 have HK:Hid (UU m=2/\U7 m=[]):=Fe (by
  have:UU m=2:=by unfold UU;rw[bp0 ht']
  exact⟨this,by unfold U7;rw[this];rfl⟩)
 rw[ht'];clear htold ht';go_wp2;go_ret2;exact⟨X_ (by rw[HK.2]) (by rw[HK.1];rfl),HB1⟩
theorem Wj(o bl:Int)(ts ds:ByteArray)(fa:Option Addr)(fc:Nat)(m:RH)(w:fV)(hop:(m.op:Int)=o)(hbl:(m.block:Int)=bl)(hb0:0<=bl)(hb1:bl<=65535)(hts:ts.data.toList=m.text)(hds:ds.data.toList=m.data)(hA:X9 w fa m.fs)(hl:lF m.fs<=1048576)(ht:m.text.length<=1048576)(hd:m.data.length<=1048576):
  f_ Vh 74 #[.agg (rG o bl ts ds fa m.fs.length fc)] w fun e w'=>
   e=.returned (.tuple #[.string ⟨(U7 m).toArray⟩,Vb Vg (UU m)])/\gm w.heap.size w w':=by
 have HC:=Fe (fun ob=>Z7 o bl ts ds fa fc m (w.alloc ob) hop hbl hb0 hb1 hts hds (hA.below b1_ (bn7 _)) hl ht hd);clear hA hts hds hop hbl;go_enter func74,ntmps74;go_wp2_with fail;refine on_ (HC _) fun w1 hb=>?_;have HB:Hid (gm w.heap.size w w1):=Fe (b1_.trans (hb.mono (by simp)));clear hb HC;go_wp2;go_ret2;exact⟨rfl,HB⟩
end Tf
namespace Tf
open Bs
def Rf(fs:pO):List Value:=fs.flatMap fun f=> [.string ⟨f.1.toArray⟩,.string ⟨f.2.toArray⟩]
theorem ZW(a b:pO):Rf (a++b)=Rf a++Rf b:=by simp[Rf]
theorem aj7(fs:pO)(i:Nat)(h:i<fs.length):(Rf fs)[i*2]?=some (.string ⟨fs[i].1.toArray⟩)/\(Rf fs)[i*2+1]?=some (.string ⟨fs[i].2.toArray⟩):=by
 induction fs generalizing i with
 |nil=>simp at h
 |cons o r ih=>
  cases i with
  |zero=>exact⟨rfl,rfl⟩
  |succ i=>
   have:=ih i (by simpa using h);simp only[Rf,bu9]at this ⊢;rw[show(i+1)*2=i*2+1+1 by omega];simpa using this
theorem El(ad:Addr)(n:Nat):((a_ ((ad.add n).block) ((ad.add n).off+1)):Addr)=ad.add (n+1):=by
 unfold Addr.add
 by_cases h:n=0
 ·subst h;simp
 simp[h];omega
theorem X9.bf1{w:fV}{ad:Addr}{fs:pO}(h:∀j u,(Rf fs)[j]?=some u->w.cell? (ad.add j)=some u):X9 w (some ad) fs:=fun i hi=>by
 obtain⟨g0,g1⟩:=aj7 fs i hi;exact⟨ad,rfl,h _ _ g0,by rw[El];exact h _ _ g1⟩
end Tf
namespace Tf
open Bs
open Rd (iL iH gH gV mH il jh vP pu za vO oo om)
theorem aa1(l:List UInt8):Lib.indexByte l 0=match cut l with|none=> -1|some (a,_)=>(a.length:Int):=by
 induction l with
 |nil=>rfl
 |cons c r ih=>
  unfold Lib.indexByte cut
  by_cases hc:c=0
  ·subst hc;rfl
  have e1:(c==0)=false:=by simpa using hc
  rw[e1,bo4 hc,ih];simp only[bu2,bz1]
  cases hr:cut r with
  |none=>rfl
  |some p=>
   have:(((p.1.length:Nat):Int)== -1)=false:=by simp
   simp only[this,bu2,bz1,bn5];rfl
theorem av7{l a b:List UInt8}(h:cut l=some (a,b)):l.take a.length=a/\l.drop a.length=0::b:=by
 obtain⟨h1,_⟩:=FE h;rw[h1];exact⟨by simp,by simp⟩
theorem WV(B:Nat)(l a b:List UInt8)(w:fV)(h:iL w B l)(hs:l.length<=268435456)(hc:cut l=some (a,b)):
  f_ Vh 163 #[p_ B] w fun e w'=>e=.returned (.string ⟨a.toArray⟩)/\iL w' B b/\w.grownBy w' (some B):=by
 have hcl:=bp1 h;have hln:=uA hc;obtain⟨t1,t2⟩:=av7 hc;have hi:=aa1 l;rw[hc]at hi;simp only at hi;have HI:=Fe (Sf.strings_Index_one ⟨l.toArray⟩ 0 w);rw[show(⟨l.toArray⟩:ByteArray).data.toList=l from rfl,hi]at HI;have HT:=Fe (za B l a.length w h (by omega) (by omega));rw[t1,t2]at HT;have HK:=Fe (fun(u:fV) (hu:iL u B (0::b))=>pu B (0::b) 1 u hu (by simp) (by simp only[bn5,maxLen];omega));have hge:(0:Int)<=(a.length:Int):=by omega
 clear h hi t1 t2 hln;go_enter func163,ntmps163;go_wp2_with fail;refine on_ HI fun u hu=>?_;obtain rfl:=hu.symm;go_wp2_with fail;refine on_ (oo _ _) fun w3 hu=>?_;obtain rfl:=hu.symm;go_wp2_with fail;refine on_ HT ?_;rintro w1 ⟨r1,g1⟩;have R1:=Fe r1;have G1:=Fe g1;clear r1 g1 HT HI hcl;go_wp2_with fail;refine on_ (HK _ R1) fun w2 hw2=>?_;have HR2:Hid (iL w2 B b):=Fe (by rw[hw2];exact R1.set b);have HG2:Hid (w.grownBy w2 (some B)):=Fe (by rw[hw2];exact gH G1 (mH _));clear hw2 HK;go_wp2;go_ret;exact⟨rfl,HR2,HG2⟩
theorem Yo(B:Nat)(l:List UInt8)(w:fV)(h:iL w B l)(hc:cut l=none):
  f_ Vh 163 #[p_ B] w fun e w'=>e=.panicked (iH 2)/\w=w':=by
 have hcl:=bp1 h;have hi:=aa1 l;rw[hc]at hi;simp only at hi;have HI:=Fe (Sf.strings_Index_one ⟨l.toArray⟩ 0 w);rw[show(⟨l.toArray⟩:ByteArray).data.toList=l from rfl,hi]at HI;clear h hi;go_enter func163,ntmps163;go_wp2_with fail;refine on_ HI fun u hu=>?_;obtain rfl:=hu.symm;go_wp2_with fail;refine on_ (om _ _) fun w3 hu=>?_;obtain rfl:=hu.symm;exact⟨rfl,rfl,rfl⟩
theorem Zk(s:ByteArray)(l:List UInt8)(w:fV)(hsl:s.data.toList=l)(hl:l.length<=1099511627776):
  f_ Vh 164 #[.string s] w fun e w'=>e=.returned (.bool (pg l==Qy))/\gm w.heap.size w w':=by
 have HS:=Fe (xB s l w hsl hl);obtain⟨ls,hls⟩:∃s:ByteArray,s=⟨(pg l).toArray⟩:=⟨_,rfl⟩;rw[<-hls]at HS;have hq:(ls.toList==[111,99,116,101,116])=(pg l==Qy):=by
  rw[bq0,hls];rfl
 clear hls;go_enter func164,ntmps164;go_wp2_with fail;refine on_ HS fun u hb=>?_;have HB:=Fe hb;clear hb HS;go_wp2;go_ret;exact⟨by rw[<-hq];rfl,HB⟩
theorem Yn(B:Nat)(l a b:List UInt8)(w:fV)(h:iL w B l)(hs:l.length<=268435456)(hc:cut l=some (a,b))(hn:iM a=true):
  f_ Vh 100 #[p_ B,.func (.func 163) #[] #[],.func (.func 80) #[] #[],Vb Vg 2] w fun e w'=>e=.returned (.string ⟨a.toArray⟩)/\iL w' B b/\w.grownBy w' (some B):=by
 have hln:=uA hc;have HN:=Fe (WV B l a b w h hs hc);have HI:=Fe (fun u=>lI ⟨a.toArray⟩ a u rfl (by omega));rw[hn]at HI;clear h hs hc hn hln;go_enter func100,bC1;go_wp2_with fail;refine on_ HN ?_;rintro w1 ⟨h1,g1⟩;have H1:=Fe h1;have G1:=Fe g1;clear h1 g1;go_wp2_with fail;refine on_ (HI _) fun w2 hu=>?_;obtain rfl:=hu.symm;go_wp2_with fail;refine on_ (oo _ _) fun w3 hu=>?_;obtain rfl:=hu.symm;go_wp2;go_ret;exact⟨rfl,H1,G1⟩
theorem XY(B:Nat)(l a b:List UInt8)(w:fV)(h:iL w B l)(hs:l.length<=268435456)(hc:cut l=some (a,b))(hn:iM a=false):
  f_ Vh 100 #[p_ B,.func (.func 163) #[] #[],.func (.func 80) #[] #[],Vb Vg 2] w fun e w'=>e=.panicked (iH 2)/\w.grownBy w' (some B):=by
 have hln:=uA hc;have HN:=Fe (WV B l a b w h hs hc);have HI:=Fe (fun u=>lI ⟨a.toArray⟩ a u rfl (by omega));rw[hn]at HI;clear h hs hc hn hln;go_enter func100,bC1;go_wp2_with fail;refine on_ HN ?_;rintro w1 ⟨h1,g1⟩;have G1:=Fe g1;clear h1 g1;go_wp2_with fail;refine on_ (HI _) fun w2 hu=>?_;obtain rfl:=hu.symm;go_wp2_with fail;refine on_ (om _ _) fun w3 hu=>?_;obtain rfl:=hu.symm;exact⟨rfl,rfl,G1⟩
theorem XF(B:Nat)(l:List UInt8)(w:fV)(h:iL w B l)(hc:cut l=none):
  f_ Vh 100 #[p_ B,.func (.func 163) #[] #[],.func (.func 80) #[] #[],Vb Vg 2] w fun e w'=>e=.panicked (iH 2)/\w.grownBy w' (some B):=by
 have HN:=Fe (Yo B l w h hc);clear h hc;go_enter func100,bC1;go_wp2_with fail;refine HN.mono ?_;rintro e w1 ⟨rfl,rfl⟩;exact⟨rfl,rfl,il _ _⟩
theorem aj8(B:Nat)(l a b:List UInt8)(w:fV)(h:iL w B l)(hs:l.length<=268435456)(hc:cut l=some (a,b))(hn:(pg a==Qy)=true):
  f_ Vh 100 #[p_ B,.func (.func 163) #[] #[],.func (.func 164) #[] #[],Vb Vg 2] w fun e w'=>e=.returned (.string ⟨a.toArray⟩)/\iL w' B b/\w.grownBy w' (some B):=by
 have hln:=uA hc;have HN:=Fe (WV B l a b w h hs hc);have HI:=Fe (fun u=>Zk ⟨a.toArray⟩ a u rfl (by omega));rw[hn]at HI;clear h hs hc hn hln;go_enter func100,bC1;go_wp2_with fail;refine on_ HN ?_;rintro w1 ⟨h1,g1⟩;have H1:=Fe h1;have G1:=Fe g1;clear h1 g1;go_wp2_with fail;refine on_ (HI _) fun w2 hb=>?_;have HR2:Hid (iL w2 B b):=Fe ((hb.block B H1.lt).trans H1);have HG2:Hid (w.grownBy w2 (some B)):=Fe (jh G1 hb);clear hb;go_wp2_with fail;refine on_ (oo _ _) fun w3 hu=>?_;obtain rfl:=hu.symm;go_wp2;go_ret;exact⟨rfl,HR2,HG2⟩
theorem af7(B:Nat)(l a b:List UInt8)(w:fV)(h:iL w B l)(hs:l.length<=268435456)(hc:cut l=some (a,b))(hn:(pg a==Qy)=false):
  f_ Vh 100 #[p_ B,.func (.func 163) #[] #[],.func (.func 164) #[] #[],Vb Vg 2] w fun e w'=>e=.panicked (iH 2)/\w.grownBy w' (some B):=by
 have hln:=uA hc;have HN:=Fe (WV B l a b w h hs hc);have HI:=Fe (fun u=>Zk ⟨a.toArray⟩ a u rfl (by omega));rw[hn]at HI;clear h hs hc hn hln;go_enter func100,bC1;go_wp2_with fail;refine on_ HN ?_;rintro w1 ⟨h1,g1⟩;have G1:=Fe g1;clear h1 g1;go_wp2_with fail;refine on_ (HI _) fun w2 hb=>?_;have HG2:Hid (w.grownBy w2 (some B)):=Fe (jh G1 hb);clear hb;go_wp2_with fail;refine on_ (om _ _) fun w3 hu=>?_;obtain rfl:=hu.symm;exact⟨rfl,rfl,HG2⟩
theorem ad9(B:Nat)(l:List UInt8)(w:fV)(h:iL w B l)(hc:cut l=none):
  f_ Vh 100 #[p_ B,.func (.func 163) #[] #[],.func (.func 164) #[] #[],Vb Vg 2] w fun e w'=>e=.panicked (iH 2)/\w.grownBy w' (some B):=by
 have HN:=Fe (Yo B l w h hc);clear h hc;go_enter func100,bC1;go_wp2_with fail;refine HN.mono ?_;rintro e w1 ⟨rfl,rfl⟩;exact⟨rfl,rfl,il _ _⟩
theorem an7(B:Nat)(l:List UInt8)(w:fV)(h:iL w B l)(hs:l.length<=268435456)(ht:l.length<=1024):
  f_ Vh 100 #[p_ B,.func (.func 101) #[] #[],.func (.func 166) #[] #[],Vb Vg 7] w fun e w'=>e=.returned (.string ⟨l.toArray⟩)/\iL w' B []/\w.grownBy w' (some B):=by
 have HN:=Fe (vO B l w h (by omega));have HI:=Fe (fun u=>X8 ⟨l.toArray⟩ u);rw[show decide (((⟨l.toArray⟩:ByteArray).size:Int)<=1024)=true by rw[gL,decide_eq_true_iff];omega]at HI;clear h hs ht;go_enter func100,bC1;go_wp2_with fail;refine on_ HN ?_;rintro w1 ⟨h1,g1⟩;have H1:=Fe h1;have G1:=Fe g1;clear h1 g1;go_wp2_with fail;refine(HI _).mono ?_;rintro e w2 ⟨rfl,rfl⟩;go_wp2_with fail;refine on_ (oo _ _) fun w3 hu=>?_;obtain rfl:=hu.symm;go_wp2;go_ret;exact⟨rfl,H1,G1⟩
theorem am4(B:Nat)(l:List UInt8)(w:fV)(h:iL w B l)(hs:l.length<=268435456)(ht:1024<l.length):
  f_ Vh 100 #[p_ B,.func (.func 101) #[] #[],.func (.func 166) #[] #[],Vb Vg 7] w fun e w'=>e=.panicked (iH 7)/\w.grownBy w' (some B):=by
 have HN:=Fe (vO B l w h (by omega));have HI:=Fe (fun u=>X8 ⟨l.toArray⟩ u);rw[show decide (((⟨l.toArray⟩:ByteArray).size:Int)<=1024)=false by rw[gL,bw2];omega]at HI;clear h hs ht;go_enter func100,bC1;go_wp2_with fail;refine on_ HN ?_;rintro w1 ⟨h1,g1⟩;have G1:=Fe g1;clear h1 g1;go_wp2_with fail;refine(HI _).mono ?_;rintro e w2 ⟨rfl,rfl⟩;go_wp2_with fail;refine on_ (om _ _) fun w3 hu=>?_;obtain rfl:=hu.symm;exact⟨rfl,rfl,G1⟩
end Tf
namespace Tf
open Bs
open Rd (iL iH gH gV mH il jh oo om)
theorem aG5:(prog.info? 146).map (fun i=>(i.zero,i.size,i.bytes))=some (some (.agg #[.string ⟨#[]⟩,.string ⟨#[]⟩]),2,32):=by kernel_rfl
def az4(l:List UInt8)(B:Nat)(w:fV)(e:Ending)(w':fV):Prop:=
 w.grownBy w' (some B)/\match Qr l with
  |none=>e=.panicked (iH 2)
  |some fs=>iL w' B []/\∃v,e=.returned v/\w'.ownsRow w.heap.size 146 2 v fs.length (Rf fs)
theorem FK{w w':fV}{B base:Nat}{v:Value}{n:Nat}{xs:List Value}{t:TypeId}{z:Nat}(h:w.ownsRow base t z v n xs)(hg:w.grownBy w' (some B))(hB:B<base):w'.ownsRow base t z v n xs:=
 h.kept hg (by
  cases hv:v.ownBlock with
  |none=>exact bo1 rfl
  |some k=>refine bo3 (fun e=> ?_);have:=(h.lt k hv).1;obtain rfl:=bp4 e;omega)
theorem ib{w:fV}{b e z:Nat}{v:Value}{n:Nat}{xs:List Value}(h:w.ownsRow b e z v n xs):∃ao cp,v=.slice ao n cp:=by
 rcases h.2 with⟨rfl,rfl⟩|⟨g,cap,cur,rfl,_⟩
 ·exact⟨_,_,rfl⟩
 exact⟨_,_,rfl⟩
theorem ownsRow_below{w w':fV}{base:Nat}{e:TypeId}{size:Nat}{v:Value}{n:Nat}{xs:List Value}(h:w.ownsRow base e size v n xs)(hb:gm w.heap.size w w'):w'.ownsRow base e size v n xs:=
 h.kept (row:=none) ⟨hb.os,hb.tape,hb.output,hb.size,fun k hk _=>hb.block k hk⟩ (by cases v.ownBlock<;>simp)
theorem KM{w wm w4:fV}{B:Nat}{r:Option Nat}(h:w.grownBy wm (some B))(hg:wm.grownBy w4 r)(hr:∀k,r=some k->w.heap.size<=k):w.grownBy w4 (some B):=
 ⟨hg.os.trans h.os,hg.tape.trans h.tape,hg.output.trans h.output,bo6 h.size hg.size,fun i hi hne=>(hg.block i (bo9 hi h.size) (fun e=>by have:=hr i e.symm;omega)).trans (h.block i hi hne)⟩
theorem KT{w w4:fV}{B:Nat}{l:List UInt8}{r:Option Nat}(h:iL w B l)(hg:w.grownBy w4 r)(hr: ¬r=some B):iL w4 B l:=by
 unfold iL;rw[hg.block B h.lt (fun e=>hr e.symm)];exact h
theorem YQ(w:fV)(a:Addr)(v:Value):w.grownBy (w.setCell a v) (some a.block):=
 ⟨rfl,rfl,rfl,by simp[World.setCell],fun k hk hne=>by rw[bo0 _ _ _ _ (fun e=>hne (by rw[e]))]⟩
theorem ap3{v:Value}{g:Nat}(h:∀k,v.ownBlock=some k->k<g):v.ownBlock=none∨v.ownBlock≠some g:=by
 cases hv:v.ownBlock with
 |none=>exact bo1 rfl
 |some k=>exact bo3 (fun e=>by have:=h k hv;obtain rfl:=bp4 e;omega)
theorem ay1{w:fV}{B:Nat}{a b v:Value}{t:TypeId}(h:w.heap[B]?=some (.cells #[a,b] t (0,0))):(w.setCell (a_ B 0) v).heap[B]?=some (.cells #[v,b] t (0,0)):=by
 rw[bs3 w B 0 _ _ _ _ h,bt2 w B _ _ _ _ h];rfl
theorem av6{w:fV}{B:Nat}{a b v:Value}{t:TypeId}(h:w.heap[B]?=some (.cells #[a,b] t (0,0))):(w.setCell (a_ B 1) v).heap[B]?=some (.cells #[a,v] t (0,0)):=by
 rw[bs3 w B 1 _ _ _ _ h,bt2 w B _ _ _ _ h];rfl
theorem ac0{w:fV}{b:Nat}{v:Value}{fs:pO}(h:w.ownsRow b 146 2 v fs.length (Rf fs)):∃a cp,v=.slice a fs.length cp/\X9 w a fs:=by
 have hcl:=fun g hg=>h.cells (g:=g) hg
 rcases h.2 with⟨e,h0⟩|⟨g,cap,cur,e,_⟩
 ·exact⟨none,0,by rw[e,h0],fun i hi=>by omega⟩
 exact⟨some (a_ g 0),cap,e,X9.bf1 (fun j u hj=>hcl g (by rw[e];rfl) j u hj)⟩
def Yu(l:List UInt8)(done:pO)(m:List UInt8):Prop:=kV l=(kV m).map fun r=>done++r
theorem am9{l m n r v r2:List UInt8}{done:pO}(h:Yu l done m)(h0:m≠ [])(h1:cut m=some (n,r))(h2:cut r=some (v,r2))(hn:iM n=true)(hv:iM v=true):Yu l (done++ [(pg n,v)]) r2:=by
 unfold Yu at*;rw[h,bf6 h0 h1 h2 hn hv]
 cases kV r2<;>simp
theorem Xw{l m:List UInt8}{done:pO}(h:Yu l done m)(h1:kV m=none):Qr l=none:=by
 unfold Yu at h;unfold Qr;rw[h,h1];rfl
theorem aq3{l:List UInt8}{done:pO}(h:Yu l done []):Qr l=if uT (V4 done)then some done else none:=by
 unfold Yu at h;unfold Qr;rw[h,FX];simp
theorem YV(B:Nat)(l:List UInt8)(w:fV)(h:iL w B l)(hl:l.length<=268435456):
  f_ Vh 165 #[p_ B] w fun e w'=>az4 l B w e w':=by
 obtain⟨i0,hi,hz0,hz1,hz2⟩:=ol aG5;have HR:=Fe h;have hB:=h.lt;clear h;go_enter func165,ntmps165;go_wp2;go_loopg [3] l.length (fun g v3 wr=>∃(m:List UInt8) (ps:pO),m.length=g/\g<=l.length/\2*ps.length+g<=l.length/\Hid (iL wr B m)/\Hid (wr.ownsRow w.heap.size 146 2 v3 ps.length (Rf ps))/\Hid (Yu l ps m)/\Hid (w.grownBy wr (some B)))
 case atStart=>exact⟨l,[],rfl,bn7 _,by simp,HR,Fe (bq3 _ _ _ _),Fe (by unfold Yu;simp),Fe (il _ _)⟩
 obtain⟨m,ps,hm,hg,hps,H1,H2,H3,H4⟩:=hrel;rename fV=>wr;have hc:=bp1 H1;have hwz:=H4.size;have hm1:m.length<=gk:=by omega
 have hm2:gk<=m.length:=by omega
 clear hm
 by_cases h0:m=[]
 ·subst h0
  have hie:(⟨([]:List UInt8).toArray⟩:ByteArray).toList.isEmpty=true:=by rw[bq0];rfl
  obtain⟨a3,c3,hv3,hat⟩:=ac0 H2;subst hv3;have HD:=Fe (Zl a3 c3 ps wr hat (by omega));have HE:=Fe (aq3 H3);obtain⟨b,hb⟩:=ex_ (uT (V4 ps));rw[<-hb]at HD HE;clear hb hat;go_wp2_with fail;refine on_ HD fun u hbu=>?_;have HGu:Hid (w.grownBy u (some B)):=Fe (jh H4 hbu);have HOu:=Fe (ownsRow_below H2 hbu);have HRu:Hid (iL u B []):=Fe ((hbu.block B H1.lt).trans H1);clear hbu HD
  cases b with
  |true=>
   go_wp2_with fail;refine on_ (oo _ _) fun w3 hu=>?_;obtain rfl:=hu.symm;go_wp2;go_ret;refine⟨HGu,?_⟩;rw[gB HE];exact⟨HRu,_,rfl,HOu⟩
  |false=>
   go_wp2_with fail;refine on_ (om _ _) fun w3 hu=>?_;obtain rfl:=hu.symm;refine⟨rfl,HGu,?_⟩;rw[gB HE];rfl
 obtain⟨sm,hsm⟩:∃s:ByteArray,s=⟨m.toArray⟩:=⟨_,rfl⟩;rw[<-hsm]at hc;have hie:sm.toList.isEmpty=false:=by
  rw[bq0,hsm];show m.isEmpty=false
  cases m with
  |nil=>exact absurd rfl h0
  |cons=>rfl
 obtain⟨W,hWW⟩:=ex_ (wr.alloc (.cells #[.string ⟨#[]⟩,.string ⟨#[]⟩] 146));have R0:Hid (iL W B m):=Fe (by rw[hWW];exact H1.alloc _);have G0:Hid (w.grownBy W (some B)):=Fe (by rw[hWW];exact gV H4 _);have O0:Hid (W.ownsRow w.heap.size 146 2 _ ps.length (Rf ps)):=Fe (by rw[hWW];exact H2.alloc _);have X0:Hid (W.heap[wr.heap.size]?=some (.cells #[.string ⟨#[]⟩,.string ⟨#[]⟩] 146 (0,0))):=Fe (by rw[hWW];exact bn3 wr _);have hne:wr.heap.size≠B:=by have:=H1.lt;omega
 have HWW:=Fe hWW;have hml:m.length<=268435456:=by omega
 have H0:=Fe h0;clear hWW hsm
 cases hcm:cut m with
 |none=>
  have HN:=Fe (Xw H3 (Bi h0 hcm));have HG:=Fe (XF B m W R0 hcm);clear hcm;go_wp2_with fail;rw[<-gB HWW];refine on_ HG fun u gu=>?_;refine⟨rfl,gH G0 gu,?_⟩;rw[gB HN]
 |some p=>
  obtain⟨n,r⟩:=p;have hl1:=uA hcm;have HL1:=Fe hl1;have hl2:n.length+1+r.length<=m.length:=by omega
  clear hl1
  by_cases hn:iM n=true
  rotate_left
  ·have hn':iM n=false:=by simpa using hn
   have HN:=Fe (Xw H3 (Ph h0 hcm hn'));have HG:=Fe (XY B m n r W R0 hml hcm hn');clear hcm hn hn';go_wp2_with fail;rw[<-gB HWW];refine on_ HG fun u gu=>?_;refine⟨rfl,gH G0 gu,?_⟩;rw[gB HN]
  have HG:=Fe (Yn B m n r W R0 hml hcm hn);have HSM:=Fe (fun u=>xB ⟨n.toArray⟩ n u rfl (by omega));go_wp2_with fail;rw[<-gB HWW];refine on_ HG ?_;rintro w1 ⟨r1,g1⟩;have R1:=Fe r1;have G1:=Fe (gH G0 g1);have O1:=Fe (FK O0 g1 hB);have X1:Hid (w1.heap[wr.heap.size]?=some (.cells #[.string ⟨#[]⟩,.string ⟨#[]⟩] 146 (0,0))):=Fe ((g1.block wr.heap.size (bo2 X0) (by simpa using hne)).trans X0);clear r1 g1 R0 G0 O0 X0 HG HWW hc;go_wp2_with fail;refine on_ (HSM _) fun w2 hb2=>?_;have R2:Hid (iL w2 B r):=Fe ((hb2.block B R1.lt).trans R1);have G2:=Fe (jh G1 hb2);have O2:=Fe (ownsRow_below O1 hb2);have X2:Hid (w2.heap[wr.heap.size]?=some (.cells #[.string ⟨#[]⟩,.string ⟨#[]⟩] 146 (0,0))):=Fe ((hb2.block _ (bo2 X1)).trans X1);have x0:w2.cell? (a_ wr.heap.size 0)=some (.string ⟨#[]⟩):=bn0 w2 wr.heap.size 0 _ _ _ X2;have x0f:w2.frozen? (a_ wr.heap.size 0)=false:=by simp[World.frozen?,gB X2]
  obtain⟨ln,hln⟩:∃s:ByteArray,s=⟨(pg n).toArray⟩:=⟨_,rfl⟩;rw[<-hln];have HLN:=Fe hln;clear hln;obtain⟨W2,hW2⟩:=ex_ (w2.setCell (a_ wr.heap.size 0) (.string ln));have hwl:w.heap.size<=wr.heap.size:=hwz;have HV3:Hid (∀k,Value.ownBlock _=some k->k<wr.heap.size):=Fe (fun k hk=>(H2.lt k hk).2);have R3:Hid (iL W2 B r):=Fe (by rw[hW2];exact KT R2 (YQ _ _ _) (by simpa using hne));have G3:Hid (w.grownBy W2 (some B)):=Fe (by rw[hW2];exact KM G2 (YQ _ _ _) (fun k hk=>by obtain rfl:=bp4 hk;exact hwl));have O3:=Fe (O2.kept (YQ w2 (a_ wr.heap.size 0) (.string ln)) (ap3 HV3));rw[<-hW2]at O3;have X3:Hid (W2.heap[wr.heap.size]?=some (.cells #[.string ln,.string ⟨#[]⟩] 146 (0,0))):=Fe (by rw[hW2];exact ay1 X2);have HW2:=Fe hW2;have hrl:r.length<=268435456:=by omega
  clear hW2 hb2 R1 G1 O1 X1 HSM R2 G2 O2
  cases hcr:cut r with
  |none=>
   have HN:=Fe (Xw H3 (Bz H0 hcm hcr));have HG:=Fe (XF B r W2 R3 hcr);clear hcr hcm hn;go_wp2_with fail;rw[<-gB HW2];refine on_ HG fun u gu=>?_;refine⟨rfl,gH G3 gu,?_⟩;rw[gB HN]
  |some p2=>
   obtain⟨v,r2⟩:=p2;have hl3:v.length+1+r2.length<=r.length:=by have:=uA hcr;omega
   by_cases hv:iM v=true
   rotate_left
   ·have hv':iM v=false:=by simpa using hv
    have HN:=Fe (Xw H3 (Pz H0 hcm hcr hv'));have HG:=Fe (XY B r v r2 W2 R3 hrl hcr hv');clear hcr hcm hn hv hv';go_wp2_with fail;rw[<-gB HW2];refine on_ HG fun u gu=>?_;refine⟨rfl,gH G3 gu,?_⟩;rw[gB HN]
   have HG:=Fe (Yn B r v r2 W2 R3 hrl hcr hv);have HST:=Fe (am9 H3 H0 hcm hcr hn hv);clear hcr hcm hn hv;go_wp2_with fail;rw[<-gB HW2];refine on_ HG ?_;rintro w4 ⟨r4,g4⟩;have R4:=Fe r4;have G4:=Fe (gH G3 g4);have O4:=Fe (FK O3 g4 hB);have X4:Hid (w4.heap[wr.heap.size]?=some (.cells #[.string ln,.string ⟨#[]⟩] 146 (0,0))):=Fe ((g4.block wr.heap.size (bo2 X3) (by simpa using hne)).trans X3);obtain⟨vs,hvs⟩:∃s:ByteArray,s=⟨v.toArray⟩:=⟨_,rfl⟩;rw[<-hvs];have x1:w4.cell? (a_ wr.heap.size 1)=some (.string ⟨#[]⟩):=bn0 w4 wr.heap.size 1 _ _ _ X4;have x1f:w4.frozen? (a_ wr.heap.size 1)=false:=by simp[World.frozen?,gB X4]
   obtain⟨W5,hW5⟩:=ex_ (w4.setCell (a_ wr.heap.size 1) (.string vs));have R5:Hid (iL W5 B r2):=Fe (by rw[hW5];exact KT R4 (YQ _ _ _) (by simpa using hne));have G5:Hid (w.grownBy W5 (some B)):=Fe (by rw[hW5];exact KM G4 (YQ _ _ _) (fun k hk=>by obtain rfl:=bp4 hk;exact hwl));have O5:=Fe (O4.kept (YQ w4 (a_ wr.heap.size 1) (.string vs)) (ap3 HV3));rw[<-hW5]at O5;have X5:Hid (W5.heap[wr.heap.size]?=some (.cells #[.string ln,.string vs] 146 (0,0))):=Fe (by rw[hW5];exact av6 X4);have y0:(w4.setCell (a_ wr.heap.size 1) (.string vs)).cell? (a_ wr.heap.size 0)=some (.string ln):=by rw[<-hW5];exact bn0 W5 wr.heap.size 0 _ _ _ X5
   have y1:(w4.setCell (a_ wr.heap.size 1) (.string vs)).cell? (a_ wr.heap.size 1)=some (.string vs):=by rw[<-hW5];exact bn0 W5 wr.heap.size 1 _ _ _ X5
   have HW5:=Fe hW5;have HZ45:Hid (W5.heap.size=w4.heap.size):=Fe (by rw[hW5];simp);have hz5:w.heap.size<=W5.heap.size:=G5.size;have HFE:Hid ([.string ln,.string vs]=Rf [(pg n,v)]):=Fe (by rw[gB HLN,hvs];rfl);clear r4 g4 HG R3 G3 O3 X3 HW2 R4 G4 O4 X4 hW5 hvs;go_wp2_with (at_builtin;rw[<-gB HW5];refine br5 _ rfl (.tmp 17) (.tmp 19) 220 rfl w.heap.size 146 i0 (.agg #[.string ⟨#[]⟩,.string ⟨#[]⟩]) 2 32 underlying220 hi hz0 hz1 hz2 rfl (by decide) _ ps.length (Rf ps) rfl (O5.alloc _) (a_ W5.heap.size 0) 1 1 [.string ln,.string vs] ?ad rfl ?c1 ?one ?h63 ?hby ?hba ?_)
   case ad=>rw[gB HZ45];rfl
   case c1=>exact iW W5 [.string ln,.string vs] 146
   case one=>intro u hu;simp at hu;rcases hu with rfl|rfl<;>rfl
   case h63=>simp only[maxLen];omega
   case hby=>omega
   case hba=>simp;omega
   intro v' w6 hown hg6 _;have hnew:∀k,Value.ownBlock _=some k->w.heap.size<=k:=fun k hk=>(O5.lt k hk).1;have hG6:=KM (gV G5 (.cells #[.string ln,.string vs] 146)) hg6 hnew;have hR6:iL w6 B r2:=KT (R5.alloc _) hg6 (fun e=>by have:=hnew B e;omega);have hO6:w6.ownsRow w.heap.size 146 2 v' (ps++ [(pg n,v)]).length (Rf (ps++ [(pg n,v)])):=by
    rw[bn6,ZW,<-gB HFE];exact hown
   obtain⟨ao,cp,hv6⟩:=ib hO6;have G6:=Fe hG6;have R6:=Fe hR6;have O6:=Fe hO6;clear hown hg6 hnew hG6 hR6 hO6 R5 G5 O5 X5 x0 x0f x1 x1f y0 y1;subst hv6;go_wp2;go_roundg r2.length
   case rel=>exact⟨r2,ps++ [(pg n,v)],rfl,by omega,by rw[bn6];simp;omega,R6,O6,HST,G6⟩
   omega
end Tf
namespace Tf
open Bs
open Rd (iL iH gH gV mH il jh oo om jo DV)
structure TS (w u:fV) (B:Nat) (l:List UInt8) (cs:Array Value):Prop where
 D8:iL u B l
 grown:w.grownBy u (some B)
 res:u.heap[w.heap.size]?=some (.cells zG_ 96 (0,0))
 var:u.heap[w.heap.size+1]?=some (.cells cs 96 (0,0))
theorem TS.start{w:fV}{B:Nat}{l:List UInt8}(h:iL w B l):TS w ((w.alloc (.cells zG_ 96)).alloc (.cells zG_ 96)) B l zG_:=by
 refine⟨(h.alloc _).alloc _,gV (gV (il _ _) _) _,?_,?_⟩
 ·rw[bn8 _ _ _ (by simp)];exact bn3 w _
 have q:=bn3 (w.alloc (.cells zG_ 96)) (.cells zG_ 96);simpa using q
theorem TS.next{w u u2:fV}{B:Nat}{l l2:List UInt8}{cs:Array Value}(h:TS w u B l cs)(hB:B<w.heap.size)(hr:iL u2 B l2)(hg:u.grownBy u2 (some B)):TS w u2 B l2 cs:=
 ⟨hr,gH h.grown hg,(hg.block _ (bo2 h.res) (by simp;omega)).trans h.res,(hg.block _ (bo2 h.var) (by simp;omega)).trans h.var⟩
theorem TS.set{w u:fV}{B:Nat}{l:List UInt8}{cs:Array Value}(h:TS w u B l cs)(hB:B<w.heap.size)(j:Nat)(v:Value):TS w (u.setCell (a_ (w.heap.size+1) j) v) B l (cs.setIfInBounds j v):=
 ⟨KT h.D8 (YQ _ _ _) (by simp;omega),KM h.grown (YQ _ _ _) (fun k hk=>by obtain rfl:=bp4 hk;show w.heap.size<=w.heap.size+1;omega),by rw[bo0 _ _ _ _ (by simp)];exact h.res,by rw[bs3 u (w.heap.size+1) j _ _ _ _ h.var,bt2 u (w.heap.size+1) _ _ _ _ h.var]⟩
theorem TS.cell{w u:fV}{B:Nat}{l:List UInt8}{cs:Array Value}(h:TS w u B l cs)(j:Nat):u.cell? (a_ (w.heap.size+1) j)=cs[j]?:=bn0 u _ j _ _ _ h.var
theorem TS.free{w u:fV}{B:Nat}{l:List UInt8}{cs:Array Value}(h:TS w u B l cs)(j:Nat):u.frozen? (a_ (w.heap.size+1) j)=false:=by simp[World.frozen?,h.var]
theorem TS.vlt{w u:fV}{B:Nat}{l:List UInt8}{cs:Array Value}(h:TS w u B l cs):w.heap.size+1<u.heap.size:=bo2 h.var
def WA(l:List UInt8)(B:Nat)(w:fV)(ee:Ending)(w':fV):Prop:=
 w.grownBy w' (some B)/\((U5 l).1≠0/\ee=.panicked (iH (U5 l).1)∨(U5 l).1=0/\∃v,ee=.returned (.agg #[Vb Ve (U5 l).2.op,Vb Ve (U5 l).2.block,.string ⟨(U5 l).2.text.toArray⟩,.string ⟨(U5 l).2.data.toArray⟩,v])/\w'.ownsRow w.heap.size 146 2 v (U5 l).2.fs.length (Rf (U5 l).2.fs))
theorem Wo{l:List UInt8}{B:Nat}{w w':fV}{k:Nat}{m:RH}(h:U5 l=(k,m))(hk:k≠0)(hg:w.grownBy w' (some B)):WA l B w (.panicked (iH k)) w':=⟨hg,bo1 (by rw[h];exact⟨hk,rfl⟩)⟩
theorem Xl(a b:UInt8)(k:Nat)(h:a.toNat*256+b.toNat=k):256*(a.toNat:Int)+(b.toNat:Int)=(k:Int):=by omega
theorem aF4(a b:UInt8)(r:List UInt8): ¬(a::b::r).length<2:=by simp
def ZU(op:Nat)(r:List UInt8):Nat×RH:=
 if op=1 then
  match cut r with
  |none=>(2,.zero)
  |some (n,r1)=>if iM n=false then(2,.zero)else match cut r1 with
   |none=>(2,.zero)
   |some (m,r2)=>if pg m≠Qy then(2,.zero)else match Qr r2 with
    |none=>(2,.zero)
    |some fs=>(0,⟨op,0,n,[],fs⟩)
 else if op=6 then match Qr r with
  |none=>(2,.zero)
  |some fs=>(0,⟨op,0,[],[],fs⟩)
 else if op=3∨op=4∨op=5 then
  if r.length<2 then(1,.zero)else
  let bl:=(r.getD 0 0).toNat*256+(r.getD 1 0).toNat
  let q:=r.drop 2
  if op=3 then(if 1024<q.length then(7,.zero)else(0,⟨op,bl,[],q,[]⟩))
  else if op=4 then(if q=[]then(0,⟨op,bl,[],[],[]⟩)else(2,.zero))
  else match cut q with
   |none=>(2,.zero)
   |some (t,q2)=>if q2=[]then(0,⟨op,bl,t,[],[]⟩)else(2,.zero)
 else(2,.zero)
theorem WB(a b:UInt8)(r:List UInt8):U5 (a::b::r)=ZU (a.toNat*256+b.toNat) r:=by
 unfold U5 ZU;rw[bo4 (aF4 a b r)];rfl
theorem XN{l:List UInt8}{B:Nat}{w w':fV}{m:RH}{v:Value}{o bl:Int}{ts ds:ByteArray}(h:U5 l=(0,m))(ho:o=m.op)(hb:bl=m.block)(ht:ts=⟨m.text.toArray⟩)(hd:ds=⟨m.data.toArray⟩)(hg:w.grownBy w' (some B))(hown:w'.ownsRow w.heap.size 146 2 v m.fs.length (Rf m.fs)):WA l B w (.returned (.agg #[Vb Ve o,Vb Ve bl,.string ts,.string ds,v])) w':=
 ⟨hg,bo3 (by rw[h];subst ho hb ht hd;exact⟨rfl,v,rfl,hown⟩)⟩
theorem nT{w:fV}{b b':Nat}{e:TypeId}{z:Nat}{v:Value}{n:Nat}{xs:List Value}(h:w.ownsRow b e z v n xs)(hb:b'<=b):w.ownsRow b' e z v n xs:=by
 refine⟨h.1,?_⟩
 rcases h.2 with hx|⟨g,cap,cur,e1,e2,e3⟩
 ·exact bo1 hx
 exact bo3 ⟨g,cap,cur,e1,bo6 hb e2,e3⟩
theorem bY{w u:fV}{B:Nat}{l l0:List UInt8}{cs:Array Value}(h:TS w u B l cs){a:Act}(hp:a.tmps.getD 2 undef=(p_ w.heap.size))(hd:a.defers=[])(hsz:cs.size=5)
  (hP:w.grownBy (u.setRow w.heap.size cs) (some B)->WA l0 B w (.returned (.agg cs)) (u.setRow w.heap.size cs)):bodyPost Vh f127 (fun ee w'=>WA l0 B w ee w') .ret a (u.setRow w.heap.size cs):=
 bq9 (v:=.agg cs) (bE1 results127 _ _ w.heap.size 96 cs (0,0) _ hp (bt2 _ _ _ cs _ _ h.res) by3 rfl (by rw[hsz];kernel_rfl)) hd
  (hP ⟨h.grown.os,h.grown.tape,h.grown.output,by rw[size_setRow];exact h.grown.size,fun k hk hne=>(bt0 _ _ _ _ (by omega)).trans (h.grown.block k hk hne)⟩)
theorem aO6(B:Nat)(a b:UInt8)(r:List UInt8)(w:fV)(h:iL w B (a::b::r))(hs:r.length<=1048576)(hop:a.toNat*256+b.toNat=4):
  f_ Vh 127 #[p_ B] w fun ee w'=>WA (a::b::r) B w ee w':=by
 have hB:=h.lt;have HS0:=Fe (TS.start h);have HW:=Fe (jo B a b r _ HS0.D8 (by simp only[bn5,maxLen];omega));rw[Xl a b _ hop]at HW;clear h;go_enter func127,ntmps127;go_wp2_with fail;refine on_ HW ?_;rintro w1 ⟨r1,g1⟩;have HS1:=Fe (HS0.next hB r1 g1);clear r1 g1 HW HS0;have v0:=HS1.cell 0;have v0f:=HS1.free 0;simp only[bs7,bu8]at v0;have HS2:=Fe (HS1.set hB 0 (Vb Ve 4));obtain⟨W2,hW2⟩:=ex_ (w1.setCell (a_ (w.heap.size+1) 0) (Vb Ve 4));rw[<-hW2]at HS2;have v1:(w1.setCell (a_ (w.heap.size+1) 0) (Vb Ve 4)).cell? (a_ (w.heap.size+1) 0)=some (Vb Ve 4):=by rw[<-hW2];exact HS2.cell 0
 have HW2:=Fe hW2;clear hW2 HS1
 by_cases hsh:r.length<2
 ·have hrd:U5 (a::b::r)=(1,.zero):=by rw[WB,hop];unfold ZU;simp[hsh]
  have HN:=Fe (DV B r W2 HS2.D8 hsh);go_wp2_with fail;rw[<-gB HW2];refine on_ HN fun wz hwz=>?_;exact⟨rfl,Wo hrd (by decide) (by rw[hwz];exact HS2.grown)⟩
 obtain⟨c,d,q,rfl⟩:∃c d q,r=c::d::q:=by
  match r,hsh with
  |[],h=>exact absurd (by simp) h
  |[_],h=>exact absurd (by simp) h
  |c::d::q,_=>exact⟨c,d,q,rfl⟩
 have HRD:=Fe (WB a b (c::d::q));rw[hop]at HRD;have HN:=Fe (jo B c d q W2 HS2.D8 (by simp only[bn5,maxLen]at hs ⊢;omega));obtain⟨bl,hbl⟩:∃bl:Int,bl=256*(c.toNat:Int)+(d.toNat:Int):=⟨_,rfl⟩;rw[<-hbl]at HN;have HBL:=Fe hbl;have hql:q.length<=1048576:=by simp only[bn5]at hs;omega
 clear hbl hsh hs;go_wp2_with fail;rw[<-gB HW2];refine on_ HN ?_;rintro w3 ⟨r3,g3⟩;have HS3:=Fe (HS2.next hB r3 g3);clear r3 g3 HN HW2 HS2 v0 v0f v1;have fq1:w3.cell? (a_ (w.heap.size+1) 1)=some (Vb Ve 0):=HS3.cell 1;have fq1f:=HS3.free 1;obtain⟨W4,hW4⟩:=ex_ (w3.setCell (a_ (w.heap.size+1) 1) (Vb Ve bl));have HS4:=Fe (HS3.set hB 1 (Vb Ve bl));rw[<-hW4]at HS4;have HW4:=Fe hW4;clear hW4
 by_cases hne:q=[]
 ·subst hne
  have hrd:U5 (a::b::c::d:: [])=(0,⟨4,c.toNat*256+d.toNat,[],[],[]⟩):=by rw[gB HRD];unfold ZU;simp
  have HRD2:=Fe hrd;clear hrd;obtain⟨sq,hsq⟩:∃s:ByteArray,s=⟨([]:List UInt8).toArray⟩:=⟨_,rfl⟩;have hrc0:=bp1 HS4.D8;rw[<-hsq]at hrc0;have hrc:(w3.setCell (a_ (w.heap.size+1) 1) (Vb Ve bl)).cell? (a_ B 0)=some (.string sq):=by rw[<-gB HW4];exact hrc0
  have hie:sq.toList.isEmpty=true:=by rw[bq0,hsq];rfl
  clear hsq hrc0;go_wp2_with fail;refine on_ (oo _ _) fun wz hwz=>?_;obtain rfl:=hwz.symm;rw[<-gB HW4];go_wp2_with (first|refine bt5 rfl 96 (.tmp 3) rfl (w.heap.size+1) rfl 96 _ (0,0) _ HS4.var by3 rfl (by kernel_rfl) ?_|refine bq2 rfl 96 (.tmp 2) (.tmp 49) rfl w.heap.size _ rfl rfl 96 _ HS4.res (by kernel_rfl) (by kernel_rfl) (by kernel_rfl) ?_);exact bY HS4 rfl rfl rfl (fun q=>XN HRD2 rfl (by have:=gB HBL;simp;omega) rfl rfl q (bq3 _ _ _ _))
 have hrd:U5 (a::b::c::d::q)=(2,.zero):=by rw[gB HRD];unfold ZU;simp[hne]
 have HRD2:=Fe hrd;clear hrd;obtain⟨sq,hsq⟩:∃s:ByteArray,s=⟨q.toArray⟩:=⟨_,rfl⟩;have hrc0:=bp1 HS4.D8;rw[<-hsq]at hrc0;have hrc:(w3.setCell (a_ (w.heap.size+1) 1) (Vb Ve bl)).cell? (a_ B 0)=some (.string sq):=by rw[<-gB HW4];exact hrc0
 have hie:sq.toList.isEmpty=false:=by
  rw[bq0,hsq];show q.isEmpty=false
  cases hq0:q with
  |nil=>exact absurd hq0 hne
  |cons=>rfl
 clear hsq hrc0;go_wp2_with fail;refine on_ (om _ _) fun wz hwz=>?_;obtain rfl:=hwz.symm;exact⟨rfl,Wo HRD2 (by decide) (by rw[<-gB HW4];exact HS4.grown)⟩
theorem aP0(B:Nat)(a b:UInt8)(r:List UInt8)(w:fV)(h:iL w B (a::b::r))(hs:r.length<=1048576)(hop:a.toNat*256+b.toNat=3):
  f_ Vh 127 #[p_ B] w fun ee w'=>WA (a::b::r) B w ee w':=by
 have hB:=h.lt;have HS0:=Fe (TS.start h);have HW:=Fe (jo B a b r _ HS0.D8 (by simp only[bn5,maxLen];omega));rw[Xl a b _ hop]at HW;clear h;go_enter func127,ntmps127;go_wp2_with fail;refine on_ HW ?_;rintro w1 ⟨r1,g1⟩;have HS1:=Fe (HS0.next hB r1 g1);clear r1 g1 HW HS0;have v0:=HS1.cell 0;have v0f:=HS1.free 0;simp only[bs7,bu8]at v0;have HS2:=Fe (HS1.set hB 0 (Vb Ve 3));obtain⟨W2,hW2⟩:=ex_ (w1.setCell (a_ (w.heap.size+1) 0) (Vb Ve 3));rw[<-hW2]at HS2;have v1:(w1.setCell (a_ (w.heap.size+1) 0) (Vb Ve 3)).cell? (a_ (w.heap.size+1) 0)=some (Vb Ve 3):=by rw[<-hW2];exact HS2.cell 0
 have HW2:=Fe hW2;clear hW2 HS1
 by_cases hsh:r.length<2
 ·have hrd:U5 (a::b::r)=(1,.zero):=by rw[WB,hop];unfold ZU;simp[hsh]
  have HN:=Fe (DV B r W2 HS2.D8 hsh);go_wp2_with fail;rw[<-gB HW2];refine on_ HN fun wz hwz=>?_;exact⟨rfl,Wo hrd (by decide) (by rw[hwz];exact HS2.grown)⟩
 obtain⟨c,d,q,rfl⟩:∃c d q,r=c::d::q:=by
  match r,hsh with
  |[],h=>exact absurd (by simp) h
  |[_],h=>exact absurd (by simp) h
  |c::d::q,_=>exact⟨c,d,q,rfl⟩
 have HRD:=Fe (WB a b (c::d::q));rw[hop]at HRD;have HN:=Fe (jo B c d q W2 HS2.D8 (by simp only[bn5,maxLen]at hs ⊢;omega));obtain⟨bl,hbl⟩:∃bl:Int,bl=256*(c.toNat:Int)+(d.toNat:Int):=⟨_,rfl⟩;rw[<-hbl]at HN;have HBL:=Fe hbl;have hql:q.length<=1048576:=by simp only[bn5]at hs;omega
 clear hbl hsh hs;go_wp2_with fail;rw[<-gB HW2];refine on_ HN ?_;rintro w3 ⟨r3,g3⟩;have HS3:=Fe (HS2.next hB r3 g3);clear r3 g3 HN HW2 HS2 v0 v0f v1;have fq1:w3.cell? (a_ (w.heap.size+1) 1)=some (Vb Ve 0):=HS3.cell 1;have fq1f:=HS3.free 1;obtain⟨W4,hW4⟩:=ex_ (w3.setCell (a_ (w.heap.size+1) 1) (Vb Ve bl));have HS4:=Fe (HS3.set hB 1 (Vb Ve bl));rw[<-hW4]at HS4;have HW4:=Fe hW4;clear hW4
 by_cases hbig:1024<q.length
 ·have hrd:U5 (a::b::c::d::q)=(7,.zero):=by rw[gB HRD];unfold ZU;simp[hbig]
  have HG:=Fe (am4 B q W4 HS4.D8 (by omega) hbig);go_wp2_with fail;rw[<-gB HW4];refine on_ HG fun wz gz=>?_;exact⟨rfl,Wo hrd (by decide) (gH HS4.grown gz)⟩
 have hrd:U5 (a::b::c::d::q)=(0,⟨3,c.toNat*256+d.toNat,[],q,[]⟩):=by rw[gB HRD];unfold ZU;simp[hbig]
 have HRD2:=Fe hrd;have HG:=Fe (an7 B q W4 HS4.D8 (by omega) (by omega));obtain⟨ds,hds⟩:∃s:ByteArray,s=⟨q.toArray⟩:=⟨_,rfl⟩;rw[<-hds]at HG;have HDS:=Fe hds;clear hrd hds hbig;go_wp2_with fail;rw[<-gB HW4];refine on_ HG ?_;rintro w5 ⟨r5,g5⟩;have HS5:=Fe (HS4.next hB r5 g5);clear r5 g5 HG HW4 HS4 fq1 fq1f HS3;have fq3:w5.cell? (a_ (w.heap.size+1) 3)=some (.string ⟨#[]⟩):=HS5.cell 3;have fq3f:=HS5.free 3;obtain⟨W6,hW6⟩:=ex_ (w5.setCell (a_ (w.heap.size+1) 3) (.string ds));have HS6:=Fe (HS5.set hB 3 (.string ds));rw[<-hW6]at HS6;have HW6:=Fe hW6;clear hW6;obtain⟨sq,hsq⟩:∃s:ByteArray,s=⟨([]:List UInt8).toArray⟩:=⟨_,rfl⟩;have hrc0:=bp1 HS6.D8;rw[<-hsq]at hrc0;have hrc:(w5.setCell (a_ (w.heap.size+1) 3) (.string ds)).cell? (a_ B 0)=some (.string sq):=by rw[<-gB HW6];exact hrc0
 have hie:sq.toList.isEmpty=true:=by rw[bq0,hsq];rfl
 clear hsq hrc0;go_wp2_with fail;refine on_ (oo _ _) fun wz hwz=>?_;obtain rfl:=hwz.symm;rw[<-gB HW6];go_wp2_with (first|refine bt5 rfl 96 (.tmp 3) rfl (w.heap.size+1) rfl 96 _ (0,0) _ HS6.var by3 rfl (by kernel_rfl) ?_|refine bq2 rfl 96 (.tmp 2) (.tmp 49) rfl w.heap.size _ rfl rfl 96 _ HS6.res (by kernel_rfl) (by kernel_rfl) (by kernel_rfl) ?_);exact bY HS6 rfl rfl rfl (fun q=>XN HRD2 rfl (by have:=gB HBL;simp;omega) rfl HDS q (bq3 _ _ _ _))
theorem aP2(B:Nat)(a b:UInt8)(r:List UInt8)(w:fV)(h:iL w B (a::b::r))(hs:r.length<=1048576)(hop:a.toNat*256+b.toNat=5):
  f_ Vh 127 #[p_ B] w fun ee w'=>WA (a::b::r) B w ee w':=by
 have hB:=h.lt;have HS0:=Fe (TS.start h);have HW:=Fe (jo B a b r _ HS0.D8 (by simp only[bn5,maxLen];omega));rw[Xl a b _ hop]at HW;clear h;go_enter func127,ntmps127;go_wp2_with fail;refine on_ HW ?_;rintro w1 ⟨r1,g1⟩;have HS1:=Fe (HS0.next hB r1 g1);clear r1 g1 HW HS0;have v0:=HS1.cell 0;have v0f:=HS1.free 0;simp only[bs7,bu8]at v0;have HS2:=Fe (HS1.set hB 0 (Vb Ve 5));obtain⟨W2,hW2⟩:=ex_ (w1.setCell (a_ (w.heap.size+1) 0) (Vb Ve 5));rw[<-hW2]at HS2;have v1:(w1.setCell (a_ (w.heap.size+1) 0) (Vb Ve 5)).cell? (a_ (w.heap.size+1) 0)=some (Vb Ve 5):=by rw[<-hW2];exact HS2.cell 0
 have HW2:=Fe hW2;clear hW2 HS1
 by_cases hsh:r.length<2
 ·have hrd:U5 (a::b::r)=(1,.zero):=by rw[WB,hop];unfold ZU;simp[hsh]
  have HN:=Fe (DV B r W2 HS2.D8 hsh);go_wp2_with fail;rw[<-gB HW2];refine on_ HN fun wz hwz=>?_;exact⟨rfl,Wo hrd (by decide) (by rw[hwz];exact HS2.grown)⟩
 obtain⟨c,d,q,rfl⟩:∃c d q,r=c::d::q:=by
  match r,hsh with
  |[],h=>exact absurd (by simp) h
  |[_],h=>exact absurd (by simp) h
  |c::d::q,_=>exact⟨c,d,q,rfl⟩
 have HRD:=Fe (WB a b (c::d::q));rw[hop]at HRD;have HN:=Fe (jo B c d q W2 HS2.D8 (by simp only[bn5,maxLen]at hs ⊢;omega));obtain⟨bl,hbl⟩:∃bl:Int,bl=256*(c.toNat:Int)+(d.toNat:Int):=⟨_,rfl⟩;rw[<-hbl]at HN;have HBL:=Fe hbl;have hql:q.length<=1048576:=by simp only[bn5]at hs;omega
 clear hbl hsh hs;go_wp2_with fail;rw[<-gB HW2];refine on_ HN ?_;rintro w3 ⟨r3,g3⟩;have HS3:=Fe (HS2.next hB r3 g3);clear r3 g3 HN HW2 HS2 v0 v0f v1;have fq1:w3.cell? (a_ (w.heap.size+1) 1)=some (Vb Ve 0):=HS3.cell 1;have fq1f:=HS3.free 1;obtain⟨W4,hW4⟩:=ex_ (w3.setCell (a_ (w.heap.size+1) 1) (Vb Ve bl));have HS4:=Fe (HS3.set hB 1 (Vb Ve bl));rw[<-hW4]at HS4;have HW4:=Fe hW4;clear hW4
 cases hcq:cut q with
 |none=>
  have hrd:U5 (a::b::c::d::q)=(2,.zero):=by rw[gB HRD];unfold ZU;simp[hcq]
  have HG:=Fe (Yo B q W4 HS4.D8 hcq);go_wp2_with fail;rw[<-gB HW4];refine on_ HG fun wz hwz=>?_;exact⟨rfl,Wo hrd (by decide) (by rw[<-hwz];exact HS4.grown)⟩
 |some p=>
  obtain⟨t,q2⟩:=p;have HG:=Fe (WV B q t q2 W4 HS4.D8 (by omega) hcq);obtain⟨ts,hts⟩:∃s:ByteArray,s=⟨t.toArray⟩:=⟨_,rfl⟩;rw[<-hts]at HG;have HTS:=Fe hts;have HCQ:=Fe hcq;clear hts hcq;go_wp2_with fail;rw[<-gB HW4];refine on_ HG ?_;rintro w5 ⟨r5,g5⟩;have HS5:=Fe (HS4.next hB r5 g5);clear r5 g5 HG HW4 HS4 fq1 fq1f HS3;have fq2:w5.cell? (a_ (w.heap.size+1) 2)=some (.string ⟨#[]⟩):=HS5.cell 2;have fq2f:=HS5.free 2;obtain⟨W6,hW6⟩:=ex_ (w5.setCell (a_ (w.heap.size+1) 2) (.string ts));have HS6:=Fe (HS5.set hB 2 (.string ts));rw[<-hW6]at HS6;have HW6:=Fe hW6;clear hW6
  by_cases hne:q2=[]
  ·subst hne
   have hrd:U5 (a::b::c::d::q)=(0,⟨5,c.toNat*256+d.toNat,t,[],[]⟩):=by rw[gB HRD];unfold ZU;simp[gB HCQ]
   have HRD2:=Fe hrd;clear hrd;obtain⟨sq,hsq⟩:∃s:ByteArray,s=⟨([]:List UInt8).toArray⟩:=⟨_,rfl⟩;have hrc0:=bp1 HS6.D8;rw[<-hsq]at hrc0;have hrc:(w5.setCell (a_ (w.heap.size+1) 2) (.string ts)).cell? (a_ B 0)=some (.string sq):=by rw[<-gB HW6];exact hrc0
   have hie:sq.toList.isEmpty=true:=by rw[bq0,hsq];rfl
   clear hsq hrc0;go_wp2_with fail;refine on_ (oo _ _) fun wz hwz=>?_;obtain rfl:=hwz.symm;rw[<-gB HW6];go_wp2_with (first|refine bt5 rfl 96 (.tmp 3) rfl (w.heap.size+1) rfl 96 _ (0,0) _ HS6.var by3 rfl (by kernel_rfl) ?_|refine bq2 rfl 96 (.tmp 2) (.tmp 49) rfl w.heap.size _ rfl rfl 96 _ HS6.res (by kernel_rfl) (by kernel_rfl) (by kernel_rfl) ?_);exact bY HS6 rfl rfl rfl (fun q=>XN HRD2 rfl (by have:=gB HBL;simp;omega) HTS rfl q (bq3 _ _ _ _))
  have hrd:U5 (a::b::c::d::q)=(2,.zero):=by rw[gB HRD];unfold ZU;simp[gB HCQ,hne]
  have HRD2:=Fe hrd;clear hrd;obtain⟨sq,hsq⟩:∃s:ByteArray,s=⟨q2.toArray⟩:=⟨_,rfl⟩;have hrc0:=bp1 HS6.D8;rw[<-hsq]at hrc0;have hrc:(w5.setCell (a_ (w.heap.size+1) 2) (.string ts)).cell? (a_ B 0)=some (.string sq):=by rw[<-gB HW6];exact hrc0
  have hie:sq.toList.isEmpty=false:=by
   rw[bq0,hsq];show q2.isEmpty=false
   cases hq0:q2 with
   |nil=>exact absurd hq0 hne
   |cons=>rfl
  clear hsq hrc0;go_wp2_with fail;refine on_ (om _ _) fun wz hwz=>?_;obtain rfl:=hwz.symm;exact⟨rfl,Wo HRD2 (by decide) (by rw[<-gB HW6];exact HS6.grown)⟩
theorem aP7(B:Nat)(a b:UInt8)(r:List UInt8)(w:fV)(h:iL w B (a::b::r))(hs:r.length<=1048576)(hop:a.toNat*256+b.toNat=6):
  f_ Vh 127 #[p_ B] w fun ee w'=>WA (a::b::r) B w ee w':=by
 have hB:=h.lt;have HS0:=Fe (TS.start h);have HW:=Fe (jo B a b r _ HS0.D8 (by simp only[bn5,maxLen];omega));rw[Xl a b _ hop]at HW;clear h;go_enter func127,ntmps127;go_wp2_with fail;refine on_ HW ?_;rintro w1 ⟨r1,g1⟩;have HS1:=Fe (HS0.next hB r1 g1);clear r1 g1 HW HS0;have v0:=HS1.cell 0;have v0f:=HS1.free 0;simp only[bs7,bu8]at v0;have HS2:=Fe (HS1.set hB 0 (Vb Ve 6));obtain⟨W2,hW2⟩:=ex_ (w1.setCell (a_ (w.heap.size+1) 0) (Vb Ve 6));rw[<-hW2]at HS2;have v1:(w1.setCell (a_ (w.heap.size+1) 0) (Vb Ve 6)).cell? (a_ (w.heap.size+1) 0)=some (Vb Ve 6):=by rw[<-hW2];exact HS2.cell 0
 have HW2:=Fe hW2;clear hW2 HS1;have HG:=Fe (YV B r W2 HS2.D8 (by omega));have hvl:=HS2.vlt
 cases hfl:Qr r with
 |none=>
  have hrd:U5 (a::b::r)=(2,.zero):=by rw[WB,hop];unfold ZU;simp[hfl]
  go_wp2_with fail;rw[<-gB HW2];refine HG.mono ?_;rintro ee wz ⟨gz,hz⟩;rw[hfl]at hz;subst hz;exact⟨rfl,Wo hrd (by decide) (gH HS2.grown gz)⟩
 |some fs=>
  have hrd:U5 (a::b::r)=(0,⟨6,0,[],[],fs⟩):=by rw[WB,hop];unfold ZU;simp[hfl]
  have HRD2:=Fe hrd;have HFL:=Fe hfl;clear hrd hfl;go_wp2_with fail;rw[<-gB HW2];refine HG.mono ?_;rintro ee w7 ⟨g7,hz⟩;rw[gB HFL]at hz;obtain⟨r7,v,rfl,hown⟩:=hz;obtain⟨sa,scp,rfl⟩:=ib hown;have HS7:=Fe (HS2.next hB r7 g7);have HOW:=Fe hown;have HVL:=Fe hvl;clear r7 g7 hown hvl HG HW2 v0 v0f v1;have fq4:w7.cell? (a_ (w.heap.size+1) 4)=some (.slice none 0 0):=HS7.cell 4;have fq4f:=HS7.free 4;obtain⟨W8,hW8⟩:=ex_ (w7.setCell (a_ (w.heap.size+1) 4) (.slice sa fs.length scp));have HS8:=Fe (HS7.set hB 4 (.slice sa fs.length scp));rw[<-hW8]at HS8;have HW8:=Fe hW8;clear hW8;have HO8:Hid (W8.ownsRow (w.heap.size+1) 146 2 (.slice sa fs.length scp) fs.length (Rf fs)):=Fe (by
   rw[gB HW8]
   refine nT (bs0 HOW (by have:=gB HVL;show w.heap.size+1<_;omega) _) (by have:=gB HVL;omega))
  obtain⟨sq,hsq⟩:∃s:ByteArray,s=⟨([]:List UInt8).toArray⟩:=⟨_,rfl⟩;have hrc0:=bp1 HS8.D8;rw[<-hsq]at hrc0;have hrc:(w7.setCell (a_ (w.heap.size+1) 4) (.slice sa fs.length scp)).cell? (a_ B 0)=some (.string sq):=by rw[<-gB HW8];exact hrc0
  have hie:sq.toList.isEmpty=true:=by rw[bq0,hsq];rfl
  clear hsq hrc0;go_wp2_with fail;refine on_ (oo _ _) fun wz hwz=>?_;obtain rfl:=hwz.symm;rw[<-gB HW8];go_wp2_with (first|refine bt5 rfl 96 (.tmp 3) rfl (w.heap.size+1) rfl 96 _ (0,0) _ HS8.var by3 rfl (by kernel_rfl) ?_|refine bq2 rfl 96 (.tmp 2) (.tmp 49) rfl w.heap.size _ rfl rfl 96 _ HS8.res (by kernel_rfl) (by kernel_rfl) (by kernel_rfl) ?_);exact bY HS8 rfl rfl rfl (fun q=>XN HRD2 rfl rfl rfl rfl q (Rd.Jz HO8 (by omega) (by omega) _))
theorem aP9(B:Nat)(a b:UInt8)(r:List UInt8)(w:fV)(h:iL w B (a::b::r))(hs:r.length<=1048576)(hop:a.toNat*256+b.toNat=1):
  f_ Vh 127 #[p_ B] w fun ee w'=>WA (a::b::r) B w ee w':=by
 have hB:=h.lt;have HS0:=Fe (TS.start h);have HW:=Fe (jo B a b r _ HS0.D8 (by simp only[bn5,maxLen];omega));rw[Xl a b _ hop]at HW;clear h;go_enter func127,ntmps127;go_wp2_with fail;refine on_ HW ?_;rintro w1 ⟨r1,g1⟩;have HS1:=Fe (HS0.next hB r1 g1);clear r1 g1 HW HS0;have v0:=HS1.cell 0;have v0f:=HS1.free 0;simp only[bs7,bu8]at v0;have HS2:=Fe (HS1.set hB 0 (Vb Ve 1));obtain⟨W2,hW2⟩:=ex_ (w1.setCell (a_ (w.heap.size+1) 0) (Vb Ve 1));rw[<-hW2]at HS2;have v1:(w1.setCell (a_ (w.heap.size+1) 0) (Vb Ve 1)).cell? (a_ (w.heap.size+1) 0)=some (Vb Ve 1):=by rw[<-hW2];exact HS2.cell 0
 have HW2:=Fe hW2;clear hW2 HS1
 cases hc1:cut r with
 |none=>
  have hrd:U5 (a::b::r)=(2,.zero):=by rw[WB,hop];unfold ZU;simp[hc1]
  have HG:=Fe (XF B r W2 HS2.D8 hc1);go_wp2_with fail;rw[<-gB HW2];refine on_ HG fun wz gz=>?_;exact⟨rfl,Wo hrd (by decide) (gH HS2.grown gz)⟩
 |some p1=>
  obtain⟨n,r1⟩:=p1;have hl1:n.length+1+r1.length<=r.length:=by have:=uA hc1;omega
  by_cases hn:iM n=true
  rotate_left
  ·have hn':iM n=false:=by simpa using hn
   have hrd:U5 (a::b::r)=(2,.zero):=by rw[WB,hop];unfold ZU;simp[hc1,hn']
   have HG:=Fe (XY B r n r1 W2 HS2.D8 (by omega) hc1 hn');go_wp2_with fail;rw[<-gB HW2];refine on_ HG fun wz gz=>?_;exact⟨rfl,Wo hrd (by decide) (gH HS2.grown gz)⟩
  have HG:=Fe (Yn B r n r1 W2 HS2.D8 (by omega) hc1 hn);obtain⟨ns,hns⟩:∃s:ByteArray,s=⟨n.toArray⟩:=⟨_,rfl⟩;rw[<-hns]at HG;have HNS:=Fe hns;have HC1:=Fe hc1;have HN:=Fe hn;clear hns hc1 hn;go_wp2_with fail;rw[<-gB HW2];refine on_ HG ?_;rintro w3 ⟨r3,g3⟩;have HS3:=Fe (HS2.next hB r3 g3);clear r3 g3 HG HW2 HS2 v0 v0f v1;have fq2:w3.cell? (a_ (w.heap.size+1) 2)=some (.string ⟨#[]⟩):=HS3.cell 2;have fq2f:=HS3.free 2;obtain⟨W4,hW4⟩:=ex_ (w3.setCell (a_ (w.heap.size+1) 2) (.string ns));have HS4:=Fe (HS3.set hB 2 (.string ns));rw[<-hW4]at HS4;have HW4:=Fe hW4;clear hW4
  cases hc2:cut r1 with
  |none=>
   have hrd:U5 (a::b::r)=(2,.zero):=by rw[WB,hop];unfold ZU;simp[gB HC1,gB HN,hc2]
   have HG:=Fe (ad9 B r1 W4 HS4.D8 hc2);go_wp2_with fail;rw[<-gB HW4];refine on_ HG fun wz gz=>?_;exact⟨rfl,Wo hrd (by decide) (gH HS4.grown gz)⟩
  |some p2=>
   obtain⟨mo,r2⟩:=p2;have hl2:mo.length+1+r2.length<=r1.length:=by have:=uA hc2;omega
   by_cases hmo:(pg mo==Qy)=true
   rotate_left
   ·have hmo':(pg mo==Qy)=false:=by simpa using hmo
    have hmo2:pg mo≠Qy:=by simpa using hmo'
    have hrd:U5 (a::b::r)=(2,.zero):=by rw[WB,hop];unfold ZU;simp[gB HC1,gB HN,hc2,hmo2]
    have HG:=Fe (af7 B r1 mo r2 W4 HS4.D8 (by omega) hc2 hmo');clear hmo hmo' hmo2;go_wp2_with fail;rw[<-gB HW4];refine on_ HG fun wz gz=>?_;exact⟨rfl,Wo hrd (by decide) (gH HS4.grown gz)⟩
   have HG:=Fe (aj8 B r1 mo r2 W4 HS4.D8 (by omega) hc2 hmo);have HMO:Hid (pg mo=Qy):=Fe (by simpa using hmo);obtain⟨ms,hms⟩:∃s:ByteArray,s=⟨mo.toArray⟩:=⟨_,rfl⟩;rw[<-hms]at HG;have HC2:=Fe hc2;clear hms hmo hc2;go_wp2_with fail;rw[<-gB HW4];refine on_ HG ?_;rintro w5 ⟨r5,g5⟩;have HS5:=Fe (HS4.next hB r5 g5);clear r5 g5 HG HW4 HS4 fq2 fq2f HS3;have HG:=Fe (YV B r2 w5 HS5.D8 (by omega));have hvl:=HS5.vlt
   cases hfl:Qr r2 with
   |none=>
    have hrd:U5 (a::b::r)=(2,.zero):=by rw[WB,hop];unfold ZU;simp[gB HC1,gB HN,gB HC2,gB HMO,hfl]
    go_wp2_with fail;skip
    refine HG.mono ?_;rintro ee wz ⟨gz,hz⟩;rw[hfl]at hz;subst hz;exact⟨rfl,Wo hrd (by decide) (gH HS5.grown gz)⟩
   |some fs=>
    have hrd:U5 (a::b::r)=(0,⟨1,0,n,[],fs⟩):=by rw[WB,hop];unfold ZU;simp[gB HC1,gB HN,gB HC2,gB HMO,hfl]
    have HRD2:=Fe hrd;have HFL:=Fe hfl;clear hrd hfl;go_wp2_with fail;skip
    refine HG.mono ?_;rintro ee w7 ⟨g7,hz⟩;rw[gB HFL]at hz;obtain⟨r7,v,rfl,hown⟩:=hz;obtain⟨sa,scp,rfl⟩:=ib hown;have HS7:=Fe (HS5.next hB r7 g7);have HOW:=Fe hown;have HVL:=Fe hvl;clear r7 g7 hown hvl HG;have fq4:w7.cell? (a_ (w.heap.size+1) 4)=some (.slice none 0 0):=HS7.cell 4;have fq4f:=HS7.free 4;obtain⟨W8,hW8⟩:=ex_ (w7.setCell (a_ (w.heap.size+1) 4) (.slice sa fs.length scp));have HS8:=Fe (HS7.set hB 4 (.slice sa fs.length scp));rw[<-hW8]at HS8;have HW8:=Fe hW8;clear hW8;have HO8:Hid (W8.ownsRow (w.heap.size+1) 146 2 (.slice sa fs.length scp) fs.length (Rf fs)):=Fe (by
     rw[gB HW8]
     refine nT (bs0 HOW (by have:=gB HVL;show w.heap.size+1<_;omega) _) (by have:=gB HVL;omega))
    obtain⟨sq,hsq⟩:∃s:ByteArray,s=⟨([]:List UInt8).toArray⟩:=⟨_,rfl⟩;have hrc0:=bp1 HS8.D8;rw[<-hsq]at hrc0;have hrc:(w7.setCell (a_ (w.heap.size+1) 4) (.slice sa fs.length scp)).cell? (a_ B 0)=some (.string sq):=by rw[<-gB HW8];exact hrc0
    have hie:sq.toList.isEmpty=true:=by rw[bq0,hsq];rfl
    clear hsq hrc0;go_wp2_with fail;refine on_ (oo _ _) fun wz hwz=>?_;obtain rfl:=hwz.symm;rw[<-gB HW8];go_wp2_with (first|refine bt5 rfl 96 (.tmp 3) rfl (w.heap.size+1) rfl 96 _ (0,0) _ HS8.var by3 rfl (by kernel_rfl) ?_|refine bq2 rfl 96 (.tmp 2) (.tmp 49) rfl w.heap.size _ rfl rfl 96 _ HS8.res (by kernel_rfl) (by kernel_rfl) (by kernel_rfl) ?_);exact bY HS8 rfl rfl rfl (fun q=>XN HRD2 rfl rfl HNS rfl q (Rd.Jz HO8 (by omega) (by omega) _))
theorem aQ2(B:Nat)(a b:UInt8)(r:List UInt8)(w:fV)(h:iL w B (a::b::r))(hs:r.length<=1048576)(k:Nat)(hop:a.toNat*256+b.toNat=k)(hno:k≠1/\k≠6/\k≠3/\k≠5/\k≠4):
  f_ Vh 127 #[p_ B] w fun ee w'=>WA (a::b::r) B w ee w':=by
 obtain⟨n1,n6,n3,n5,n4⟩:=hno;have hrd:U5 (a::b::r)=(2,.zero):=by rw[WB,hop];unfold ZU;simp[n1,n6,n3,n5,n4]
 have HRD2:=Fe hrd;have hB:=h.lt;have HS0:=Fe (TS.start h);have HW:=Fe (jo B a b r _ HS0.D8 (by simp only[bn5,maxLen];omega));rw[Xl a b _ hop]at HW;obtain⟨x,hx⟩:∃x:Int,x=(k:Int):=⟨_,rfl⟩;rw[<-hx]at HW;have q1:(x==1)=false:=by simp;omega
 have q6:(x==6)=false:=by simp;omega
 have q3:(x==3)=false:=by simp;omega
 have q5:(x==5)=false:=by simp;omega
 have q4:(x==4)=false:=by simp;omega
 clear h hrd hx n1 n6 n3 n5 n4;go_enter func127,ntmps127;go_wp2_with fail;refine on_ HW ?_;rintro w1 ⟨r1,g1⟩;have HS1:=Fe (HS0.next hB r1 g1);clear r1 g1 HW HS0;have v0:=HS1.cell 0;have v0f:=HS1.free 0;simp only[bs7,bu8]at v0;have HS2:=Fe (HS1.set hB 0 (Vb Ve x));obtain⟨W2,hW2⟩:=ex_ (w1.setCell (a_ (w.heap.size+1) 0) (Vb Ve x));rw[<-hW2]at HS2;have v1:(w1.setCell (a_ (w.heap.size+1) 0) (Vb Ve x)).cell? (a_ (w.heap.size+1) 0)=some (Vb Ve x):=by rw[<-hW2];exact HS2.cell 0
 have HW2:=Fe hW2;clear hW2 HS1;go_wp2;exact⟨rfl,Wo HRD2 (by decide) (by rw[<-gB HW2];exact HS2.grown)⟩
theorem ag1(B:Nat)(l:List UInt8)(w:fV)(h:iL w B l)(hl:l.length<2):
  f_ Vh 127 #[p_ B] w fun ee w'=>WA l B w ee w':=by
 have hrd:U5 l=(1,.zero):=by unfold U5;rw[bp0 hl]
 have HS0:=Fe (TS.start h);have HW:=Fe (DV B l _ HS0.D8 hl);clear h;go_enter func127,ntmps127;go_wp2_with fail;refine on_ HW fun wz hwz=>?_;exact⟨rfl,Wo hrd (by decide) (by rw[hwz];exact HS0.grown)⟩
theorem aE7(B:Nat)(l:List UInt8)(w:fV)(h:iL w B l)(hl:l.length<=1048576):
  f_ Vh 127 #[p_ B] w fun ee w'=>WA l B w ee w':=by
 match l,h,hl with
 |[],h,_=>exact ag1 B [] w h (by simp)
 |[x],h,_=>exact ag1 B [x] w h (by simp)
 |a::b::r,h,hl=>
  have hs:r.length<=1048576:=by simp only[bn5]at hl;omega
  by_cases h1:a.toNat*256+b.toNat=1
  ·exact aP9 B a b r w h hs h1
  by_cases h6:a.toNat*256+b.toNat=6
  ·exact aP7 B a b r w h hs h6
  by_cases h3:a.toNat*256+b.toNat=3
  ·exact aP0 B a b r w h hs h3
  by_cases h5:a.toNat*256+b.toNat=5
  ·exact aP2 B a b r w h hs h5
  by_cases h4:a.toNat*256+b.toNat=4
  ·exact aO6 B a b r w h hs h4
  exact aQ2 B a b r w h hs _ rfl ⟨h1,h6,h3,h5,h4⟩
end Tf
namespace Vl
open Bs Rd
open gP (jf kT blocks gD gM gI jk iG jE)
def IE(n:Nat)(xs:List Value)(w:fV)(mk:Option Addr->Nat->Value)(ee:Ending)(w':fV):Prop:=
 ∃sa sc,ee=.returned (mk sa sc)/\w'.ownsRow w.heap.size 146 2 (.slice sa n sc) n xs/\gm w.heap.size w w'
theorem je(s:ByteArray)(k:Int)(w:fV)
  (hR:∀u B,iL u B s.data.toList->(∀b o,b<w.heap.size->u.cell? (a_ b o)=w.cell? (a_ b o))->f_ Vh 127 #[p_ B] u fun ee w'=>ee=.panicked (iH k)/\u.grownBy w' (some B)):
  f_ Vh 126 #[.string s,.func (.func 127) #[] #[]] w fun ee w'=>ee=.returned (.tuple #[.agg zG_,Vb Vg k])/\gm w.heap.size w w':=by
 have hmf:=hmf_;have HR:=Fe hR;clear hR;go_enter_defers func126,ntmps126
 go_wp2_with fail;refine on_ (HR _ _ (iG _ _ s (by simp)) (fun b o hb=>b3_.cell (p:=(a_ b o)) hb)) fun w1 g1=>?_;obtain⟨hr,he⟩:=blocks g1 rfl;refine bt9 (f:=162) (args:=#[p_ (w.heap.size+1)]) (by simp) (by simp[go_sem]) ?_;refine(jf func162 (by kernel_rfl) (by kernel_rfl) (by kernel_rfl) (a_ (w.heap.size+1) 0) 0 k [] _ (bp1 he) (br2 he)).mono ?_;rintro e u' w'' ⟨rfl,rfl,rfl⟩;exact⟨_,aL results126 rfl rfl hr he (fun u hu=>bq4 u _ _ _ _ _ _ hu by3 rfl (by kernel_rfl)),rfl,(jk g1 b3_ (by omega)).setCell (by simp) _⟩
theorem nK(s:ByteArray)(a0 a1:Int)(a2 a3:ByteArray)(sn:Nat)(xs:List Value)(w:fV)
  (hR:∀u B,iL u B s.data.toList->(∀b o,b<w.heap.size->u.cell? (a_ b o)=w.cell? (a_ b o))->f_ Vh 127 #[p_ B] u fun ee w'=>(∃sa sc,ee=.returned (.agg (rG a0 a1 a2 a3 sa sn sc))/\w'.ownsRow u.heap.size 146 2 (.slice sa sn sc) sn xs)/\u.grownBy w' (some B)):
  f_ Vh 126 #[.string s,.func (.func 127) #[] #[]] w fun ee w'=>IE sn xs w (fun sa sc=>.tuple #[.agg (rG a0 a1 a2 a3 sa sn sc),Vb Vg 0]) ee w':=by
 have hmf:=hmf_;have HR:=Fe hR;clear hR;go_enter_defers func126,ntmps126
 go_wp2_with fail;refine(HR _ _ (iG _ _ s (by simp)) (fun b o hb=>b3_.cell (p:=(a_ b o)) hb)).mono ?_;rintro ee w1 ⟨⟨sa,sc,rfl,ho⟩,g1⟩;obtain⟨hr,he⟩:=blocks g1 rfl;have HB:=Fe (jk g1 b3_ (by omega));have hc:=fun cs=>bp1 ((bt0 w1 w.heap.size _ cs (by omega)).trans he);have hf:=fun cs=>br2 ((bt0 w1 w.heap.size _ cs (by omega)).trans he);go_wp2_with (refine bq2 rfl 96 (.tmp 4) (.tmp 11) rfl w.heap.size _ rfl rfl 96 _ hr (by kernel_rfl) (by kernel_rfl) (by kernel_rfl) ?_);refine bt9 (f:=162) (args:=#[p_ (w.heap.size+1)]) (by simp) (by simp[go_sem]) ?_;refine(kT func162 (by kernel_rfl) (by kernel_rfl) (by kernel_rfl) (a_ (w.heap.size+1) 0) _).mono ?_;rintro e u' w'' ⟨rfl,rfl,rfl⟩;exact⟨_,aQ results126 rfl rfl hr he (fun u hu=>bq4 u _ _ _ _ _ _ hu by3 rfl (by kernel_rfl)),sa,sc,rfl,Tf.nT (b:=w.heap.size+2) (bs0 (Jz ho (by simp;omega) (by simp) _) (by show w.heap.size+1<_;omega) _) (by omega),(aD HB (bn7 _) _).setCell (by simp) _⟩
theorem bf5(s:ByteArray)(a0 a1:Int)(a2 a3:ByteArray)(sn:Nat)(xs:List Value)(w:fV)
  (hR:∀u:fV,f_ Vh 126 #[.string s,.func (.func 127) #[] #[]] u fun ee w'=>IE sn xs u (fun sa sc=>.tuple #[.agg (rG a0 a1 a2 a3 sa sn sc),Vb Vg 0]) ee w'):
  f_ Vh 71 #[.string s] w fun ee w'=>IE sn xs w (fun sa sc=>.tuple #[.agg (rG a0 a1 a2 a3 sa sn sc),Vb Vg 0]) ee w':=by
 have HR:=Fe hR;clear hR;go_enter func71,ntmps71;go_wp2_with fail;refine(HR _).mono ?_;rintro ee w1 ⟨sa,sc,rfl,ho,hb⟩;have hr:=(hb.block _ (by simp)).trans (bn3 w _);go_wp2_with (refine bq2 rfl 96 (.tmp 2) (.tmp 6) rfl w.heap.size _ rfl rfl 96 _ hr (by kernel_rfl) (by kernel_rfl) (by kernel_rfl) ?_);exact aC results71 rfl rfl rfl hr (fun u hu=>bq4 u _ _ _ _ _ _ hu by3 rfl (by kernel_rfl)) (fun q=>⟨sa,sc,rfl,Jz ho (by simp) (by simp) _,q⟩) b1_ hb (bn7 _)
theorem Yq(s:ByteArray)(a0 a1:Int)(a2 a3:ByteArray)(sn:Nat)(xs:List Value)(w:fV)
  (hR:∀u:fV,f_ Vh 71 #[.string s] u fun ee w'=>IE sn xs u (fun sa sc=>.tuple #[.agg (rG a0 a1 a2 a3 sa sn sc),Vb Vg 0]) ee w'):
  f_ Vh 41 #[.string s] w fun ee w'=>IE sn xs w (fun sa sc=>.tuple #[.agg (rG a0 a1 a2 a3 sa sn sc),Vb Vg 0]) ee w':=by
 have HR:=Fe hR;clear hR;go_enter func41,ntmps41;go_wp2_with fail;refine(HR _).mono ?_;rintro ee w1 ⟨sa,sc,rfl,ho,hb⟩;have hr:=(hb.block _ (by simp)).trans (bn3 w _);go_wp2_with (refine bq2 rfl 96 (.tmp 2) (.tmp 6) rfl w.heap.size _ rfl rfl 96 _ hr (by kernel_rfl) (by kernel_rfl) (by kernel_rfl) ?_);exact aC results41 rfl rfl rfl hr (fun u hu=>bq4 u _ _ _ _ _ _ hu by3 rfl (by kernel_rfl)) (fun q=>⟨sa,sc,rfl,Jz ho (by simp) (by simp) _,q⟩) b1_ hb (bn7 _)
end Vl
namespace Sp
open Bs Rd Lt Ut
open Ip (lS uX kG jY JP Ls)
open Ud (kR si tC Ff uG)
open pQ (jL fold tN)
open Wt (uO qU)
theorem aq6(a b m:List UInt8)(n:Nat)(h:a.length=n):(a++b++m).take n=a:=by rw[bq1,bE5 h]
theorem aq1(id ttl pr fr ta:Int)(load:ByteArray)(m:List UInt8):(Ls id ttl pr fr ta load++m).length=20+load.size+m.length:=by rw[bn6,al5]
theorem aw0(id ttl pr fr ta:Int)(load:ByteArray)(m:List UInt8)(hl:load.size<=1480):w2 (Ls id ttl pr fr ta load++m) 2=20+(load.size:Int):=by
 have b2:w2 (Ls id ttl pr fr ta load++m) 2=256*((gJ ((20+(load.size:Int))/256)).toNat:Int)+((gJ (20+(load.size:Int))).toNat:Int):=rfl;rw[lh,lh]at b2;omega
theorem aA1(id ttl pr fr ta:Int)(load:ByteArray)(m:List UInt8)(ht:0<ttl/\ttl<=255)(hl:load.size<=1480):Co (Ls id ttl pr fr ta load++m)=0:=by
 have b0:bt (Ls id ttl pr fr ta load++m) 0=69:=rfl;have b2:=aw0 id ttl pr fr ta load m hl;have b6:w2 (Ls id ttl pr fr ta load++m) 6=256*((gJ (16384/256)).toNat:Int)+((gJ 16384).toNat:Int):=rfl;have b8:bt (Ls id ttl pr fr ta load++m) 8=((gJ ttl).toNat:Int):=rfl;rw[lh,lh]at b6;rw[lh]at b8;have tk:(Ls id ttl pr fr ta load++m).take 20=kG (20+load.size) id ttl pr fr ta (lS (kG (20+load.size) id ttl pr fr ta 0)):=aq6 _ _ m 20 (jY _ _ _ _ _ _ _);unfold Co;rw[b0,b2,b6,b8,tk,aq1,bo4 (by omega),bo4 (by omega),bo4 (by omega),bo4 (by omega),bo4 (by omega),bo4 (fun q=>q (aj9 _ _ _ _ _ _)),bo4 (by omega),bo4 (by omega)]
theorem aJ9(id ttl pr fr ta:Int)(load:ByteArray)(m:List UInt8)(h:0<=id/\id<=65535):w2 (Ls id ttl pr fr ta load++m) 4=id:=by
 have b:w2 (Ls id ttl pr fr ta load++m) 4=256*((gJ (id/256)).toNat:Int)+((gJ id).toNat:Int):=rfl;rw[lh,lh]at b;omega
theorem aD2(id ttl pr fr ta:Int)(load:ByteArray)(m:List UInt8)(h:0<=ttl/\ttl<=255):bt (Ls id ttl pr fr ta load++m) 8=ttl:=by
 have b:bt (Ls id ttl pr fr ta load++m) 8=((gJ ttl).toNat:Int):=rfl;rw[lh]at b;omega
theorem aH0(id ttl pr fr ta:Int)(load:ByteArray)(m:List UInt8)(h:0<=pr/\pr<=255):bt (Ls id ttl pr fr ta load++m) 9=pr:=by
 have b:bt (Ls id ttl pr fr ta load++m) 9=((gJ pr).toNat:Int):=rfl;rw[lh]at b;omega
theorem aH8(id ttl pr fr ta:Int)(load:ByteArray)(m:List UInt8)(h:0<=fr/\fr<=4294967295):w4 (Ls id ttl pr fr ta load++m) 12=fr:=by
 have b:w4 (Ls id ttl pr fr ta load++m) 12=16777216*((gJ (fr/65536/256)).toNat:Int)+65536*((gJ (fr/65536)).toNat:Int)+256*((gJ (fr%65536/256)).toNat:Int)+((gJ (fr%65536)).toNat:Int):=rfl;rw[lh,lh,lh,lh]at b;omega
theorem aG7(id ttl pr fr ta:Int)(load:ByteArray)(m:List UInt8)(h:0<=ta/\ta<=4294967295):w4 (Ls id ttl pr fr ta load++m) 16=ta:=by
 have b:w4 (Ls id ttl pr fr ta load++m) 16=16777216*((gJ (ta/65536/256)).toNat:Int)+65536*((gJ (ta/65536)).toNat:Int)+256*((gJ (ta%65536/256)).toNat:Int)+((gJ (ta%65536)).toNat:Int):=rfl;rw[lh,lh,lh,lh]at b;omega
theorem aK7(id ttl pr fr ta:Int)(load:ByteArray)(m:List UInt8)(hl:load.size<=1480):((Ls id ttl pr fr ta load++m).drop 20).take ((w2 (Ls id ttl pr fr ta load++m) 2).toNat-20)=load.data.toList:=by
 rw[aw0 id ttl pr fr ta load m hl,Ls,bq1,List.drop_left' (jY _ _ _ _ _ _ _),bE5 (by rw[jc];omega)]
theorem aq0(f t fr ta:Int)(load:ByteArray)(m:List UInt8):(uG f t fr ta load++m).length=8+load.size+m.length:=by rw[bn6,YY]
theorem ay9(f t fr ta:Int)(load:ByteArray)(m:List UInt8)(hl:load.size<=1472):w2 (uG f t fr ta load++m) 4=8+(load.size:Int):=by
 have b:w2 (uG f t fr ta load++m) 4=256*((gJ ((8+(load.size:Int))/256)).toNat:Int)+((gJ (8+(load.size:Int))).toNat:Int):=rfl;rw[lh,lh]at b;omega
theorem aC1(f t fr ta:Int)(load:ByteArray)(m:List UInt8)(hl:load.size<=1472):BD (uG f t fr ta load++m) fr ta=0:=by
 have e4:=ay9 f t fr ta load m hl;have tk:(uG f t fr ta load++m).take (8+(load.size:Int)).toNat=uG f t fr ta load:=bE5 (by rw[YY];omega);unfold BD;rw[e4,aq0,tk,bo4 (by omega),bo4 (by omega),bo4 (by omega),bo4 (fun q=>q.2 (au2 f t fr ta load))]
theorem aM5(f t fr ta:Int)(load:ByteArray)(m:List UInt8)(h:0<=f/\f<=65535):w2 (uG f t fr ta load++m) 0=f:=by
 have b:w2 (uG f t fr ta load++m) 0=256*((gJ (f/256)).toNat:Int)+((gJ f).toNat:Int):=rfl;rw[lh,lh]at b;omega
theorem aM4(f t fr ta:Int)(load:ByteArray)(m:List UInt8)(h:0<=t/\t<=65535):w2 (uG f t fr ta load++m) 2=t:=by
 have b:w2 (uG f t fr ta load++m) 2=256*((gJ (t/256)).toNat:Int)+((gJ t).toNat:Int):=rfl;rw[lh,lh]at b;omega
theorem aI2(f t fr ta:Int)(load:ByteArray)(m:List UInt8)(hl:load.size<=1472):((uG f t fr ta load++m).drop 8).take ((w2 (uG f t fr ta load++m) 4).toNat-8)=load.data.toList:=by
 have e:uG f t fr ta load++m=(iy f++iy t++iy (8+load.size)++iy (Ff f t fr ta load))++(load.data.toList++m):=by rw[ap9,bq1]
 rw[ay9 f t fr ta load m hl,e,List.drop_left' (show(iy f++iy t++iy (8+load.size)++iy (Ff f t fr ta load)).length=8 from rfl),bE5 (by rw[jc];omega)]
end Sp
end Go.Proofs.YtdgacidndknceaaGreatDoor
