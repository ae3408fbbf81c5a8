import Derived.Test.YtdgacidndknceaaGreatDoorMg25
import Derived.Deep.OwnRows
import Derived.Test.YtdgacidndknceaaGreatDoorShelf
set_option linter.all false
set_option maxHeartbeats 2000000
set_option maxRecDepth 10000
open Go.ChangeShapes Go.WideShapes Go.ChangeAt Go.RowKit
open Go renaming World → fV, Calls → f_
open Go.RowKit renaming Below → gm
open Go.Proofs.Tryz renaming prog → Vh
open Go.Proofs.Tryz
namespace Go.Proofs.YtdgacidndknceaaGreatDoor
namespace Tf
open Bs
open Go.Sort (Holds grow putRow mapBlock holds_grow holds_putRow heap_grow_old)
def X9(w:fV)(a:Option Addr)(fs:pO):Prop:=
 ∀i (h:i<fs.length),∃ad,a=some ad/\w.cell? (ad.add (i*2))=some (.string ⟨fs[i].1.toArray⟩)/\w.cell? (a_ ((ad.add (i*2)).block) ((ad.add (i*2)).off+1))=some (.string ⟨fs[i].2.toArray⟩)
theorem CP{w:fV}{p:Addr}{v:Value}(h:w.cell? p=some v):p.block<w.heap.size:=by
 by_cases hlt:p.block<w.heap.size
 ·exact hlt
 ·have hn:w.heap[p.block]?=none:=by simp;omega
  simp[World.cell?,hn]at h
theorem add_block(ad:Addr)(n:Nat):(ad.add n).block=ad.block:=by unfold Addr.add;split<;>rfl
theorem X9.below{w w':fV}{a:Option Addr}{fs:pO}{n:Nat}(h:X9 w a fs)(hb:gm n w w')(hn:w.heap.size<=n):X9 w' a fs:=fun i hi=>by
 obtain⟨ad,e,h0,h1⟩:=h i hi
 have l0:=CP h0
 refine⟨ad,e,?_,?_⟩
 ·rw[hb.cell (by omega)];exact h0
 ·rw[hb.cell (by show(ad.add (i*2)).block<n;omega)];exact h1
theorem X9.lower{w w':fV}{a:Option Addr}{fs:pO}{n:Nat}(h:X9 w a fs)(hb:gm n w w')(hn:∀ad,a=some ad->0<fs.length->ad.block<n):X9 w' a fs:=fun i hi=>by
 obtain⟨ad,e,h0,h1⟩:=h i hi
 have l0:=hn ad e (by omega)
 have l1:=add_block ad (i*2)
 refine⟨ad,e,?_,?_⟩
 ·rw[hb.cell (by rw[l1];exact l0)];exact h0
 ·rw[hb.cell (by show(ad.add (i*2)).block<n;rw[l1];exact l0)];exact h1
theorem X9.old{w:fV}{a:Option Addr}{fs:pO}{n:Nat}(h:X9 w a fs)(hn:w.heap.size<=n):∀ad,a=some ad->0<fs.length->ad.block<n:=fun ad e hl=>by
 obtain⟨ad',e',h0,_⟩:=h 0 hl
 have h1:=CP h0
 rw[add_block]at h1
 rw[e]at e'
 obtain rfl:=aU e'
 omega
def WY(w:fV)(g:Nat)(L:List (List UInt8)):Prop:=w.heap[g]?=some (.cells (L.map encStr).toArray 9 (0,0))
theorem WY.lt{w:fV}{g:Nat}{L:List (List UInt8)}(h:WY w g L):g<w.heap.size:=(dF.1 h).1
theorem WY.cell{w:fV}{g:Nat}{L:List (List UInt8)}(h:WY w g L)(j:Nat)(hj:j<L.length):w.cell? (a_ g j)=some (.string ⟨L[j].toArray⟩):=by
 rw[dh w g j _ _ _ h];simp[hj]
theorem WY.free{w:fV}{g:Nat}{L:List (List UInt8)}(h:WY w g L)(j:Nat):w.frozen? (a_ g j)=false:=by
 unfold WY at h
 simp[World.frozen?,h]
theorem WY.set{w:fV}{g:Nat}{L:List (List UInt8)}(h:WY w g L)(j:Nat)(x:List UInt8):WY (w.setCell (a_ g j) (.string ⟨x.toArray⟩)) g (L.set j x):=by
 unfold WY at*
 rw[VD w g j _ _ _ _ h,VB w g _ _ _ _ h]
 congr 2
 simp[List.map_set]
theorem WY.holds{w:fV}{g:Nat}{L:List (List UInt8)}(h:WY w g L):Holds encStr w g 0 L.toArray:=fun j hj=>by
 have hj':j<L.length:=by simpa using hj
 rw[fB]
 refine⟨?_,h.free j⟩
 rw[h.cell j hj']
 congr 3
 rw[List.getElem!_toArray,I1 L j hj']
theorem WY.made(w:fV)(n:Nat):WY (w.alloc (.cells (madeCells #[.string ⟨#[]⟩] n) 9)) w.heap.size (List.replicate n []):=by
 have e:madeCells #[Value.string ⟨#[]⟩] n=((List.replicate n ([]:List UInt8)).map encStr).toArray:=by
  apply aJ;rw[VW];simp[encStr]
 unfold WY
 rw[e];exact G8 w _
theorem WY.alloc{w:fV}{g:Nat}{L:List (List UInt8)}(h:WY w g L)(o:Obj):WY (w.alloc o) g L:=by
 unfold WY at*
 rw[Vi _ _ _ (Vj h)];exact h
def WG(fs:pO)(k:Nat):List (List UInt8):=(qa fs).take k++List.replicate (fs.length-k) []
theorem ac3(fs:pO):WG fs 0=List.replicate fs.length []:=by simp[WG]
theorem ah4(fs:pO):WG fs fs.length=qa fs:=by
 unfold WG;rw[<-Ol fs,aS];simp
theorem ae7(fs:pO)(k:Nat)(h:k<fs.length):(WG fs k).set k fs[k].1=WG fs (k+1):=by
 have hl:=Ol fs
 unfold WG
 rw[o7 _ _ (by rw[aT];omega),aT,hl,BL (by omega),Nat.sub_self,show fs.length-k=(fs.length-(k+1))+1 by omega,List.replicate_succ,ah,aL (by omega),bg]
 simp[qa]
theorem aa3{N g:Nat}{w:fV}(n:Nat)(d:Array (List UInt8))(os:Array Obj)(h:N<=g)(hN:N<=w.heap.size):gm N w (grow (putRow encStr (Sort.ahead w n) g 0 d) os):=by
 refine⟨rfl,rfl,rfl,by simp,fun k hk=> ?_⟩
 rw[heap_grow_old _ _ (by simp;omega)]
 simp only[putRow,mapBlock,Sort.ahead,Array.getElem?_modify]
 rw[ax (by omega)]
theorem wW:(prog.info? 9).map (fun i=>(i.zero,i.size,i.bytes))=some (some (.string ⟨#[]⟩),1,16):=by kernel_rfl
theorem Zl(a:Option Addr)(cap:Nat)(fs:pO)(w:fV)(hA:X9 w a fs)(hl:fs.length<=268435456):
  f_ Vh 199 #[.slice a fs.length cap] w fun e w'=>e=.returned (.bool (uT (qa fs)))/\gm w.heap.size w w':=by
 have hmk:=fun(w:fV)=>run_make_row' (P:=Vh) 44 9 (.string ⟨#[]⟩) 16 vz wW rfl .i64 .i64 fs.length (by omega) (by omega) w
 have HA:=M0 hA
 have HM:=M0 (WY.made w fs.length)
 clear hA
 go_enter func199,ntmps199
 go_wp2
 go_loopw [11] (fun i wr=>∃k:Nat,k<=fs.length/\i=.int .i64 k/\Hid (WY wr w.heap.size (WG fs k))/\Hid (gm w.heap.size w wr)) (fun i _=>fs.length-(intOf i).toNat)
 case atStart=>exact⟨0,aN _,rfl,M0 (by rw[ac3];exact HM),M0 ((R9 _ w).alloc (ai _) _)⟩
 case round=>
  obtain⟨k,hk,rfl,HR,HW⟩:=hrel
  rename fV=>wr
  have hg:=HR.lt
  by_cases hlt:k<fs.length
  ·obtain⟨ad,rfl,c0,c1⟩:=HA.below HW (ai _) k hlt
   have hlt':(k:Int)<(fs.length:Int):=by omega
   have f0:=HR.free k
   have hnl:(WG fs k).length=fs.length:=by unfold WG;rw[ak,aT,Ol,bJ];omega
   have c2:=HR.cell k (by omega)
   obtain⟨o,ho⟩:∃o:ByteArray,o=⟨(WG fs k)[k].toArray⟩:=⟨_,rfl⟩
   rw[<-ho]at c2
   have HN:=M0 (ae7 fs k hlt)
   have HS:=M0 (fun x=>HR.set k x)
   obtain⟨n,v,hnv⟩:∃n v,fs[k]=(n,v):=⟨_,_,rfl⟩
   rw[hnv]at c0 c1 HN
   clear hnv ho hnl
   go_wp2
   go_roundw
   case rel=>exact⟨k+1,by omega,by go_num,M0 (by rw[<-gB HN];exact(HS n).alloc _),M0 ((HW.setCell (ai _) _).alloc (by simp;omega) _)⟩
   case measure=>simp[intOf];omega
  ·have e:k=fs.length:=by omega
   have hlt': ¬(k:Int)<(fs.length:Int):=by omega
   have HF:Hid (WY wr w.heap.size (qa fs)):=M0 (by rw[<-ah4,<-e];exact HR)
   have HC:=M0 (Sf.slices_Sort_string w.heap.size 0 fs.length (qa fs) wr HF.holds hg (by rw[Ol];omega))
   rw[Ol]at HC
   have HSC:=M0 (OH (qa fs))
   rw[Ol]at HSC
   have hsl:(XR (qa fs)).length=fs.length:=by rw[Py,Ol]
   have HSL:=M0 hsl
   have HH:=M0 (HF.holds)
   clear e hmk hsl
   go_wp2_with fail
   refine HC.mono ?_
   rintro e w1 ⟨rfl,n,os,hw1⟩
   have hw1':w1=grow (putRow encStr (Sort.ahead wr n) w.heap.size 0 (XR (qa fs)).toArray) os:=hw1
   have hB1:gm w.heap.size w w1:=HW.trans (by rw[hw1'];exact aa3 n _ os (ai _) (by omega))
   have hH1:Holds encStr w1 w.heap.size 0 (XR (qa fs)).toArray:=by
    rw[hw1']
    refine holds_grow _ _ _ _ _ _ (by simp;exact hg) (holds_putRow _ _ _ _ (qa fs).toArray _ HH (by simp[gB HSL,Ol]))
   have HC2:=M0 (Sf.slices_Compact_string w.heap.size 0 fs.length (XR (qa fs)) w1 hH1 (by rw[gB HSL];omega) (by rw[gB HSL];exact ai _))
   rw[gB HSL]at HC2
   have hz1:=hB1.size
   have HB1:=M0 hB1
   clear hw1 hw1' hH1 hB1 HC
   obtain⟨m,hm⟩:∃m,m=(Lib.compact (XR (qa fs))).length:=⟨_,rfl⟩
   rw[<-hm]at HC2 HSC
   go_wp2_with fail
   refine HC2.mono ?_
   rintro e w2 ⟨rfl,q,hw2⟩
   have HB2:Hid (gm w.heap.size w w2):=M0 (HB1.trans (by
    rw[hw2,<-Sort.grow_empty (putRow _ _ _ _ _)]
    exact aa3 q _ #[] (ai _) (by omega)))
   clear hw2 HC2
   go_wp2
   go_ret
   refine⟨?_,HB2⟩
   rw[<-gB HSC]
   show Ending.returned (.bool _)=_
   congr 2
   rw[Bool.eq_iff_iff]
   simp
   omega
end Tf
namespace Tf
open Bs
theorem iF{w w':fV}(h:gm w.heap.size w w'):∀b o,b<w.heap.size->w'.cell? (a_ b o)=w.cell? (a_ b o):=fun b o hb=>h.cell (p:=(a_ b o)) hb
theorem below_drewN{N:Nat}{a w:fV}(h:gm N a w)(n:Nat):gm N a (w.drewN n):=⟨h.os,h.tape,h.output,h.size,h.block⟩
theorem az3{fs:pO}{k:Nat}(h:k<fs.length)(hb:Qn fs[k]=false):yK fs=false:=by
 apply OM fs (k+1)
 rw[QG fs k h,hb];simp
def Yd(fs:pO):Bool:=fs.all Qn
theorem ae9{fs:pO}{k:Nat}(h:k<fs.length)(h0:Yd (fs.take k)=true)(h1:Qn fs[k]=true):Yd (fs.take (k+1))=true:=by
 unfold Yd at*
 rw[aL h,List.all_append,h0]
 simpa using h1
theorem as9(a:Option Addr)(cap:Nat)(fs:pO)(w:fV)(hA:X9 w a fs)(hl:lF fs<=268435456):
  f_ Vh 200 #[.slice a fs.length cap] w fun e w'=>e=.returned (.bool (yK fs))/\gm w.heap.size w w':=by
 have hlen:fs.length<=lF fs:=by unfold lF;omega
 have HA:=M0 hA
 clear hA
 go_enter func200,ntmps200
 go_wp2
 go_loopw [7] (fun i wr=>∃k:Nat,k<=fs.length/\i=.int .i64 k/\Hid (Yd (fs.take k)=true)/\Hid (gm w.heap.size w wr)) (fun i _=>fs.length-(intOf i).toNat)
 case atStart=>exact⟨0,aN _,rfl,M0 rfl,M0 (R9 _ _)⟩
 case round=>
  obtain⟨k,hk,rfl,HG,HW⟩:=hrel
  rename fV=>wr
  have hwz:=HW.size
  by_cases hlt:k<fs.length
  ·obtain⟨ad,rfl,c0,c1⟩:=HA.below HW (ai _) k hlt
   have hlt':(k:Int)<(fs.length:Int):=by omega
   have h1:=Ro fs k hlt
   have HBD:=M0 (fun h=>az3 (fs:=fs) hlt h)
   have HOK:=M0 (fun h=>ae9 (fs:=fs) hlt HG h)
   obtain⟨n,v,hnv⟩:∃n v,fs[k]=(n,v):=⟨_,_,rfl⟩
   rw[hnv]at c0 c1 HBD HOK h1
   simp only at h1
   have hgd:Qn (n,v)=(iM n && (pg n==n) && iM v):=rfl
   obtain⟨ns,hns⟩:∃s:ByteArray,s=⟨n.toArray⟩:=⟨_,rfl⟩
   obtain⟨vs,hvs⟩:∃s:ByteArray,s=⟨v.toArray⟩:=⟨_,rfl⟩
   rw[<-hns]at c0
   rw[<-hvs]at c1
   have hbn:ns.data.toList.length<=9223372036854775807:=by rw[hns];simp;omega
   have hbv:vs.data.toList.length<=9223372036854775807:=by rw[hvs];simp;omega
   have HI:=M0 (fun(s:ByteArray) (h:s.data.toList.length<=9223372036854775807) u=>lI s _ u rfl h)
   have HSM:=M0 (fun u=>xB ns n u (by rw[hns]) (by omega))
   have gn:iM ns.data.toList=iM n:=by rw[hns]
   have gv:iM vs.data.toList=iM v:=by rw[hvs]
   have HNS:=M0 hns
   clear hns hvs hnv
   by_cases hn:iM n=true
   ·rw[hn]at gn
    obtain⟨ls,hls⟩:∃s:ByteArray,s=⟨(pg n).toArray⟩:=⟨_,rfl⟩
    rw[<-hls]at HSM
    by_cases hlo:pg n=n
    ·have e1:ls=ns:=by rw[hls,hlo,gB HNS]
     rw[e1]at HSM
     clear hls e1
     by_cases hv:iM v=true
     ·rw[hv]at gv
      have HN:Hid (Yd (fs.take (k+1))=true):=M0 (HOK (by rw[hgd,hn,hlo,hv];simp))
      clear HBD HOK hgd hn hlo hv
      go_wp2
      go_region_held3 (fun u=>u.cell? (a_ wr.heap.size 0)=some (.string ns)/\u.cell? (a_ wr.heap.size 1)=some (.string vs)/\wr.heap.size<u.heap.size) (go_keep)
       (first|(go_at_call 80;refine(HI _ (by first|exact hbn|exact hbv) _).mono ?_;rintro e u ⟨rfl,rfl⟩)|(go_at_call 198;refine(HSM _).mono ?_;rintro e u ⟨rfl,hb⟩;have hc:=iF hb;have hz:=hb.size;have hzz:wr.heap.size<u.heap.size:=by first|omega|(simp at hz;omega)))
      have HBU:Hid (gm w.heap.size w u):=M0 (((HW.alloc hwz _).drew).trans (‹gm _ _ u›.mono (by simp;omega)))
      go_wp2
      exact⟨⟨k+1,by omega,by go_num,HN,HBU⟩,by simp[intOf];omega⟩
     ·have hv':iM v=false:=by simpa using hv
      rw[hv']at gv
      have HN:Hid (yK fs=false):=M0 (HBD (by rw[hgd,hv'];simp))
      clear HBD HOK hgd hn hlo hv hv'
      go_wp2
      go_region_held3 (fun u=>u.cell? (a_ wr.heap.size 0)=some (.string ns)/\u.cell? (a_ wr.heap.size 1)=some (.string vs)/\wr.heap.size<u.heap.size) (go_keep)
       (first|(go_at_call 80;refine(HI _ (by first|exact hbn|exact hbv) _).mono ?_;rintro e u ⟨rfl,rfl⟩)|(go_at_call 198;refine(HSM _).mono ?_;rintro e u ⟨rfl,hb⟩;have hc:=iF hb;have hz:=hb.size;have hzz:wr.heap.size<u.heap.size:=by first|omega|(simp at hz;omega)))
      have HBU:Hid (gm w.heap.size w u):=M0 (((HW.alloc hwz _).drew).trans (‹gm _ _ u›.mono (by simp;omega)))
      go_wp2
      go_ret
      exact⟨by rw[gB HN];rfl,HBU⟩
    ·have hne:(ls.toList==ns.toList)=false:=by
      rw[Vw,Vw,hls,gB HNS]
      simpa using hlo
     have HN:Hid (yK fs=false):=M0 (HBD (by rw[hgd,hn];simp[hlo]))
     clear HBD HOK hgd hn hlo hls
     go_wp2
     refine wp_region_held_drew (S:=fun u=>u.cell? (a_ wr.heap.size 0)=some (.string ns)) (by kernel_rfl) (by go_keep) (fun hS0=> ?_)
     refine tkH_ (i:=0) (v:=(p_ wr.heap.size)) rfl (by kernel_rfl) (fun _ _ _ h=>h) (au ⟨by rfl,?_⟩) hS0 ?_
     ·intro u hu;go_simp
     try simp only[Act.put,ae,ah,af]
     refine tkH_ (i:=1) (v:=.string ns) rfl (by kernel_rfl) (fun _ _ _ h=>h) (au ⟨by rfl,?_⟩) hS0 ?_
     ·intro u hu;go_simp
     try simp only[Act.put,ae,ah,af]
     refine wpAnyH_ready (rs:=[2]) (by kernel_rfl) (by simp) ?_
     refine AllReadyH.cons rfl (fun K hK=> ?_) AllReadyH.nil
     go_simp
     refine(HI _ hbn _).mono ?_
     rintro e u ⟨rfl,rfl⟩
     rw[gn]
     refine hK.out _ _ hS0 (fun _=> ?_)
     clear hK K
     try simp only[Act.put,ae,ah,af]
     refine tkH_ (i:=3) (v:=.bool false) rfl (by kernel_rfl) (fun _ _ _ h=>h) (au ⟨by rfl,?_⟩) hS0 ?_
     ·intro u hu;go_simp
     try simp only[Act.put,ae,ah,af]
     refine tkH_ (i:=4) (v:=.bool false) rfl (by kernel_rfl) (fun _ _ _ h=>h) (au ⟨by rfl,?_⟩) hS0 ?_
     ·intro u hu;go_simp
     try simp only[Act.put,ae,ah,af]
     refine tkH_ (i:=5) (v:=(p_ wr.heap.size)) rfl (by kernel_rfl) (fun _ _ _ h=>h) (au ⟨by rfl,?_⟩) hS0 ?_
     ·intro u hu;go_simp
     try simp only[Act.put,ae,ah,af]
     refine tkH_ (i:=6) (v:=.string ns) rfl (by kernel_rfl) (fun _ _ _ h=>h) (au ⟨by rfl,?_⟩) hS0 ?_
     ·intro u hu;go_simp
     try simp only[Act.put,ae,ah,af]
     refine tkH_ (i:=8) (v:=(p_ wr.heap.size)) rfl (by kernel_rfl) (fun _ _ _ h=>h) (au ⟨by rfl,?_⟩) hS0 ?_
     ·intro u hu;go_simp
     try simp only[Act.put,ae,ah,af]
     refine tkH_ (i:=9) (v:=.string ns) rfl (by kernel_rfl) (fun _ _ _ h=>h) (au ⟨by rfl,?_⟩) hS0 ?_
     ·intro u hu;go_simp
     try simp only[Act.put,ae,ah,af]
     refine wpAnyH_ready (rs:=[7]) (by kernel_rfl) (by simp) ?_
     refine AllReadyH.cons rfl (fun K hK=> ?_) AllReadyH.nil
     go_simp
     refine(HSM _).mono ?_
     rintro e u ⟨rfl,hb⟩
     have hS1:u.cell? (a_ wr.heap.size 0)=some (.string ns):=(iF hb _ _ (by simp)).trans hS0
     have HBU:Hid (gm w.heap.size w u):=M0 (((HW.alloc hwz _).drew).trans (hb.mono (by simp;omega)))
     clear hb
     refine hK.out _ _ hS1 (fun _=> ?_)
     clear hK K
     try simp only[Act.put,ae,ah,af]
     refine tkH_ (i:=10) (v:=.bool true) rfl (by kernel_rfl) (fun _ _ _ h=>h) (au ⟨by rfl,?_⟩) hS1 ?_
     ·intro u hu;go_simp
     try simp only[Act.put,ae,ah,af]
     refine tkH_ (i:=11) (v:=.bool true) rfl (by kernel_rfl) (fun _ _ _ h=>h) (au ⟨by rfl,?_⟩) hS1 ?_
     ·intro u hu;go_simp
     try simp only[Act.put,ae,ah,af]
     refine tkH_ (i:=12) (v:=.bool true) rfl (by kernel_rfl) (fun _ _ _ h=>h) (au ⟨by rfl,?_⟩) hS1 ?_
     ·intro u hu;go_simp
     try simp only[Act.put,ae,ah,af]
     refine tkH_ (i:=13) (v:=undef) rfl (by kernel_rfl) (fun _ _ _ h=>h) (aA ⟨by rfl,rfl⟩) hS1 ?_
     try simp only[Act.put,ae,ah,af]
     refine tkH_ (i:=14) (v:=undef) rfl (by kernel_rfl) (fun _ _ _ h=>h) (aA ⟨by rfl,rfl⟩) hS1 ?_
     try simp only[Act.put,ae,ah,af]
     refine tkH_ (i:=15) (v:=undef) rfl (by kernel_rfl) (fun _ _ _ h=>h) (aA ⟨by rfl,rfl⟩) hS1 ?_
     try simp only[Act.put,ae,ah,af]
     refine tkH_ (i:=16) (v:=undef) rfl (by kernel_rfl) (fun _ _ _ h=>h) (aA ⟨by rfl,rfl⟩) hS1 ?_
     try simp only[Act.put,ae,ah,af]
     refine wpAnyH_ready (rs:=[17]) (by kernel_rfl) (by simp) ?_
     refine AllReadyH.cons rfl (fun K hK=> ?_) AllReadyH.nil
     go_simp
     refine hK.out _ _ hS1 (fun _=> ?_)
     clear hK K
     try simp only[Act.put,ae,ah,af]
     refine VG (by kernel_rfl) ?_ _
     go_wp2
     go_ret
     exact⟨by rw[gB HN];rfl,HBU⟩
   ·have hn':iM n=false:=by simpa using hn
    rw[hn']at gn
    have HN:Hid (yK fs=false):=M0 (HBD (by rw[hgd,hn'];simp))
    clear HBD HOK hgd hn hn'
    go_wp2
    go_quiet ((go_at_call 80;exact VA (HI _ (by first|exact hbn|exact hbv) _)))
    go_wp2
    go_ret
    exact⟨by rw[gB HN];rfl,below_drewN (HW.alloc hwz _) _⟩
  ·have e:k=fs.length:=by omega
   have hlt': ¬(k:Int)<(fs.length:Int):=by omega
   have HT:Hid (yK fs=uT (qa fs)):=M0 (by
    have q:=gB HG
    rw[e,aS]at q
    unfold yK
    unfold Yd at q
    rw[q,Bool.true_and])
   have HD:=M0 (Zl a cap fs wr (HA.below HW (ai _)) (by omega))
   clear e
   go_wp2_with fail
   refine HD.mono ?_
   rintro e u ⟨rfl,hb⟩
   have HB:Hid (gm w.heap.size w u):=M0 (HW.trans (hb.mono hwz))
   clear hb
   go_wp2
   go_ret
   exact⟨by rw[gB HT];rfl,HB⟩
theorem index_le(l:List UInt8):decide (0<=Lib.indexByte l 0)=l.contains 0:=by
 induction l with
 |nil=>rfl
 |cons c r ih=>
  have hge:=Lib.indexByte_ge r 0
  unfold Lib.indexByte
  rw[List.contains_cons]
  by_cases hc:c=0
  ·subst hc;simp
  ·have e1:(c==0)=false:=by simpa using hc
   have e2:((0:UInt8)==c)=false:=by simpa using fun h=>hc h.symm
   rw[e1,e2,Bool.false_or,<-ih]
   simp only[bN,fD]
   by_cases hm:Lib.indexByte r 0= -1
   ·rw[hm];rfl
   ·have:(Lib.indexByte r 0== -1)=false:=by simpa using hm
    rw[this]
    simp only[bN,fD]
    rw[decide_eq_decide];omega
end Tf
namespace Tf
open Bs Wt
def WC(ss:List ByteArray):List UInt8:=ss.flatMap fun s=>s.data.toList++ [0]
theorem al3(ss:List ByteArray)(k:Nat)(h:k<ss.length):WC (ss.take (k+1))=WC (ss.take k)++(ss[k].data.toList++ [0]):=by
 rw[WC,aL h,bK]
 simp[WC]
theorem ZV(ss:List ByteArray)(k:Nat):(WC (ss.take k)).length<=(WC ss).length:=by
 have e:WC ss=WC (ss.take k)++WC (ss.drop k):=by
  rw[WC,WC,WC,<-bK,bV]
 rw[e,ak];omega
theorem aq5(B bs:Nat)(s t:ByteArray)(L:List UInt8)(w:fV)(hW:Wr w B L)(hbs:bs=w.heap.size)(hsz:L.length+(s.size+t.size)<=1099511627776):
  f_ Vh 116 #[p_ B,.slice (some (a_ bs 0)) 2 2] (w.alloc (.cells #[.string s,.string t] 9)) fun e w'=>
   e=.returned (.tuple #[])/\Wr w' B (L++(s.data.toList++t.data.toList))/\Kept B w w':=by
 subst hbs
 have eF:flat [s,t]=s.data.toList++t.data.toList:=by simp[flat]
 have h:=J5 B w.heap.size 2 [s,t] L _ (hW.alloc (.cells #[.string s,.string t] 9)) hW.lt (G8 w _) (by rw[eF,ak,jc,jc];exact hsz) (by simp)
 refine h.mono ?_
 rintro e w1 ⟨rfl,h1,h2⟩
 refine⟨rfl,?_,kE hW h2⟩
 rw[<-eF];exact h1
theorem t_(B bs cap:Nat)(ss:List ByteArray)(L:List UInt8)(w:fV)(hW:Wr w B L)(hb:B<bs)
  (hsrc:w.heap[bs]?=some (.cells (ss.map Value.string).toArray 9 (0,0))) (hsz:L.length+(WC ss).length<=1099511627776) (hn:ss.length<=1099511627776):
  f_ Vh 202 #[p_ B,.slice (some (a_ bs 0)) ss.length cap] w fun e w'=>
   e=.returned (.tuple #[])/\Wr w' B (L++WC ss)/\Kept B w w':=by
 have HS:=M0 hsrc
 clear hsrc
 go_enter func202,ntmps202
 go_wp2
 go_loopw [8] (fun i wr=>∃k:Nat,k<=ss.length/\i=.int .i64 k/\Hid (Wr wr B (L++WC (ss.take k)))/\Hid (Kept B w wr)) (fun i _=>ss.length-(intOf i).toNat)
 case atStart=>exact⟨0,aN _,rfl,M0 (by simpa[WC]using hW),M0 (Kept.refl _ _)⟩
 case round=>
  obtain⟨k,hk,rfl,H1,H2⟩:=hrel
  rename fV=>wr
  by_cases hlt:k<ss.length
  ·have hsr:=H2.others _ _ _ _ hb HS (by decide)
   have hcs:wr.cell? (a_ bs k)=some (.string ss[k]):=by
    rw[dh wr bs k _ _ _ hsr];simp[hlt]
   have hlt':(k:Int)<(ss.length:Int):=by omega
   have HT:=M0 (al3 ss k hlt)
   have hle:=ZV ss (k+1)
   rw[gB HT,ak,ak,jc]at hle
   obtain⟨s,hs⟩:∃s,s=ss[k]:=⟨_,rfl⟩
   rw[<-hs]at hcs HT hle
   simp only[aj,aP]at hle
   have HC:=M0 (aq5 B wr.heap.size s ⟨#[0]⟩ _ wr H1 rfl (by rw[ak];show _+(_+1)<=_;omega))
   clear hsr hs hle
   go_wp2_with fail
   refine HC.mono ?_
   rintro e w1 ⟨rfl,h1,h2⟩
   have K1:=M0 h1
   have K2:=M0 (H2.trans h2)
   clear h1 h2 HC hcs
   go_wp2
   go_roundw
   case rel=>exact⟨k+1,by omega,by go_num,M0 (by rw[gB HT,<-bg];exact K1),K2⟩
   case measure=>simp[intOf];omega
  ·have e:k=ss.length:=by omega
   subst e
   have h1:=gB H1
   rw[aS]at h1
   have HF:=M0 h1
   clear h1
   go_wp2
   go_end0
   exact⟨rfl,HF,H2⟩
theorem ar1(B bs:Nat)(s:ByteArray)(L:List UInt8)(w:fV)(hW:Wr w B L)(hbs:bs=w.heap.size)(hsz:L.length+s.size<=1099511620000):
  f_ Vh 202 #[p_ B,.slice (some (a_ bs 0)) 1 1] (w.alloc (.cells #[.string s] 9)) fun e w'=>
   e=.returned (.tuple #[])/\Wr w' B (L++(s.data.toList++ [0]))/\Kept B w w':=by
 subst hbs
 have eF:WC [s]=s.data.toList++ [0]:=by simp[WC]
 have h:=t_ B w.heap.size 1 [s] L _ (hW.alloc (.cells #[.string s] 9)) hW.lt (G8 w _) (by rw[eF,ak,jc];simp;omega) (by simp)
 refine h.mono ?_
 rintro e w1 ⟨rfl,h1,h2⟩
 refine⟨rfl,?_,kE hW h2⟩
 rw[<-eF];exact h1
theorem aa0(B bs:Nat)(s t:ByteArray)(L:List UInt8)(w:fV)(hW:Wr w B L)(hbs:bs=w.heap.size)(hsz:L.length+(s.size+t.size)<=1099511620000):
  f_ Vh 202 #[p_ B,.slice (some (a_ bs 0)) 2 2] (w.alloc (.cells #[.string s,.string t] 9)) fun e w'=>
   e=.returned (.tuple #[])/\Wr w' B (L++(s.data.toList++ [0]++(t.data.toList++ [0])))/\Kept B w w':=by
 subst hbs
 have eF:WC [s,t]=s.data.toList++ [0]++(t.data.toList++ [0]):=by simp[WC]
 have h:=t_ B w.heap.size 2 [s,t] L _ (hW.alloc (.cells #[.string s,.string t] 9)) hW.lt (G8 w _) (by rw[eF];simp only[ak,jc,aj,aP];omega) (by simp)
 refine h.mono ?_
 rintro e w1 ⟨rfl,h1,h2⟩
 refine⟨rfl,?_,kE hW h2⟩
 rw[<-eF];exact h1
theorem Ze(B:Nat)(a:Option Addr)(cap:Nat)(fs:pO)(L:List UInt8)(w:fV)(hW:Wr w B L)(hA:X9 w a fs)(hB:∀ad,a=some ad->0<fs.length->ad.block<B)(hl:lF fs<=2097152)(hL:L.length<=2097152):
  f_ Vh 203 #[p_ B,.slice a fs.length cap,.int .i64 1472] w fun e w'=>
   e=.returned (.tuple #[])/\Kept B w w'/\∃M,Wr w' B M/\M.length<=8388608/\(M=L++nW fs∨(1472<M.length/\1472<(L++nW fs).length)):=by
 have HA:=M0 hA
 have HB:=M0 hB
 have hBl:=hW.lt
 have hlen:fs.length<=lF fs:=by unfold lF;omega
 have HW:=M0 hW
 clear hA hB hW
 go_enter func203,ntmps203
 go_wp2
 go_loopw [10] (fun i wr=>∃k:Nat,k<=fs.length/\i=.int .i64 k/\Hid (Wr wr B (L++nW (fs.take k)))/\Hid (Kept B w wr)) (fun i _=>fs.length-(intOf i).toNat)
 case atStart=>exact⟨0,aN _,rfl,M0 (by simpa[nW]using gB HW),M0 (Kept.refl _ _)⟩
 case round=>
  obtain⟨k,hk,rfl,H1,H2⟩:=hrel
  rename fV=>wr
  obtain⟨v,hv,hown⟩:=gB H1
  obtain⟨ao,cp,hv'⟩:=wV hown
  have hB2:=Vj hv
  have hc:=Vm hv
  rw[hv']at hc
  have hMl:(L++nW (fs.take k)).length<=6291456:=by
   have h1:=SF fs k
   have h2:=Qo fs
   rw[ak];omega
  by_cases hlt:k<fs.length
  ·obtain⟨ad,rfl,c0,c1⟩:=HA.lower H2.below HB k hlt
   have hlt':(k:Int)<(fs.length:Int):=by omega
   obtain⟨n,x,hnx⟩:∃n x,fs[k]=(n,x):=⟨_,_,rfl⟩
   rw[hnx]at c0 c1
   have hd:n.length+x.length<=2097152:=by have:=Ro fs k hlt;rw[hnx]at this;simp only at this;omega
   have HT:=M0 (QV fs k hlt)
   rw[hnx]at HT
   obtain⟨X,hX⟩:∃X,L++nW (fs.take k)=X:=⟨_,rfl⟩
   rw[hX]at hc hMl
   have HX:=M0 hX
   have H1':Hid (Wr wr B X):=M0 (by rw[<-gB HX];exact H1)
   obtain⟨ns,hns⟩:∃s:ByteArray,s=⟨n.toArray⟩:=⟨_,rfl⟩
   obtain⟨xs,hxs⟩:∃s:ByteArray,s=⟨x.toArray⟩:=⟨_,rfl⟩
   have hnz:ns.size=n.length:=by rw[hns,gL]
   have hxz:xs.size=x.length:=by rw[hxs,gL]
   rw[<-hns]at c0
   rw[<-hxs]at c1
   have HF:Hid (ns.data.toList++ [0]++(xs.data.toList++ [0])=Uu (n,x)):=M0 (by rw[hns,hxs];rfl)
   have HP:=M0 (fun(u:fV) (hu:Wr u B X) (b:Nat) (hb:b=u.heap.size)=>aa0 B b ns xs X u hu hb (by omega))
   clear hv hown hv' hX hnx v H1 hns hxs hnz hxz
   by_cases hbig:1472<X.length
   ·have hgt:(1472:Int)<(X.length:Int):=by omega
    go_wp2
    go_end0
    refine⟨rfl,H2.trans ((Kept.refl B wr).alloc (by omega) _),X,H1'.alloc _,by omega,aA ⟨hbig,?_⟩⟩
    have h1:=SF fs k
    rw[<-gB HX,ak]at hbig
    simp only[ak];omega
   ·have hgt: ¬(1472:Int)<(X.length:Int):=by omega
    go_wp2_with fail
    refine(HP _ (H1'.alloc _) _ (by simp)).mono ?_
    rintro e u ⟨rfl,k1,q1⟩
    have K1:=M0 k1
    have Q1:=M0 q1
    clear k1 q1
    go_wp2
    go_roundw
    case rel=>exact⟨k+1,by omega,by go_num,M0 (by rw[gB HT,<-bg,gB HX,<-gB HF];exact K1),M0 (H2.trans (((Kept.refl B wr).alloc (by omega) _).trans Q1))⟩
    case measure=>simp[intOf];omega
  ·have e:k=fs.length:=by omega
   subst e
   rw[aS]at hMl
   have h1':=gB H1
   rw[aS]at h1'
   have HE:=M0 h1'
   clear hv hown hv' hc v h1'
   go_wp2
   go_end0
   exact⟨rfl,H2,_,HE,by omega,au rfl⟩
theorem Jp(o bl:Int)(ts ds:ByteArray)(fa:Option Addr)(fc:Nat)(m:RH)(w:fV)(hop:(m.op:Int)=o)(hts:ts.data.toList=m.text)(hA:X9 w fa m.fs)(hl:lF m.fs<=2097152)(ht:m.text.length<=2097152):
  f_ Vh 167 #[.agg (rM o bl ts ds fa m.fs.length fc)] w fun e w'=>e=.returned (.bool (RS m))/\gm w.heap.size w w':=by
 obtain⟨W,hWW⟩:∃W,W=w.alloc (.cells (rM o bl ts ds fa m.fs.length fc) 96):=⟨_,rfl⟩
 have hW0:gm w.heap.size w W:=by rw[hWW];exact(R9 _ _).alloc (ai _) _
 have hWz:w.heap.size<=W.heap.size:=hW0.size
 have HI:=M0 (lI ts m.text W hts (by omega))
 have HF:=M0 (as9 fa fc m.fs W (hA.below hW0 (ai _)) (by omega))
 have HC:=M0 (Sf.strings_Contains_one ts 0 W)
 rw[hts,index_le]at HC
 have HW0:=M0 hW0
 have HWW:=M0 hWW
 have hbox:∀j,W.cell? (a_ w.heap.size j)=(rM o bl ts ds fa m.fs.length fc)[j]?:=fun j=>by rw[hWW,dh _ w.heap.size j _ _ (0,0) (G8 w _)]
 clear hW0 hA hWW
 by_cases e1:o=1
 ·subst e1
  have HT:Hid (RS m=(iM m.text && yK m.fs)):=M0 (by unfold RS;rw[ay (by omega)])
  clear hop
  go_enter func167,ntmps167
  go_wp2_with fail
  rw[<-gB HWW]
  refine HI.mono ?_
  rintro e u ⟨rfl,rfl⟩
  by_cases hn:iM m.text=true
  ·rw[hn,Bool.true_and]at HT
   rw[hn]
   rw[gB HWW]
   go_wp2_with fail
   rw[<-gB HWW]
   refine HF.mono ?_
   rintro e u ⟨rfl,hb⟩
   have HB:Hid (gm w.heap.size w u):=M0 (HW0.trans (hb.mono hWz))
   clear hb
   go_wp2
   go_ret
   exact⟨by rw[gB HT];rfl,HB⟩
  ·have hn':iM m.text=false:=by simpa using hn
   rw[hn',Bool.false_and]at HT
   rw[hn',gB HWW]
   go_wp2
   go_ret
   exact⟨by rw[gB HT];rfl,by rw[<-gB HWW];exact gB HW0⟩
 by_cases e6:o=6
 ·subst e6
  have HT:Hid (RS m=yK m.fs):=M0 (by unfold RS;rw[show m.op=6 by omega];rfl)
  clear hop e1
  go_enter func167,ntmps167
  go_wp2_with fail
  rw[<-gB HWW]
  refine HF.mono ?_
  rintro e u ⟨rfl,hb⟩
  have HB:Hid (gm w.heap.size w u):=M0 (HW0.trans (hb.mono hWz))
  clear hb
  go_wp2
  go_ret
  exact⟨by rw[gB HT];rfl,HB⟩
 have q1:(o==1)=false:=by simpa using e1
 have q6:(o==6)=false:=by simpa using e6
 by_cases e5:o=5
 ·subst e5
  have HT:Hid (RS m= !m.text.contains 0):=M0 (by unfold RS;rw[show m.op=5 by omega];rfl)
  clear hop e1 e6
  go_enter func167,ntmps167
  go_wp2_with fail
  rw[<-gB HWW]
  refine HC.mono ?_
  rintro e u ⟨rfl,rfl⟩
  obtain⟨b,hb⟩:∃b,b=m.text.contains 0:=⟨_,rfl⟩
  rw[<-hb]at HT ⊢
  rw[gB HWW]
  clear hb
  go_wp2
  go_ret
  exact⟨by rw[gB HT];rfl,by rw[<-gB HWW];exact gB HW0⟩
 have q5:(o==5)=false:=by simpa using e5
 by_cases e3:o=3
 ·subst e3
  have HT:Hid (RS m=true):=M0 (by unfold RS;rw[show m.op=3 by omega];rfl)
  clear hop e1 e6 e5
  go_enter func167,ntmps167
  go_wp2
  go_ret
  exact⟨by rw[gB HT];rfl,by rw[<-gB HWW];exact gB HW0⟩
 have q3:(o==3)=false:=by simpa using e3
 by_cases e4:o=4
 ·subst e4
  have HT:Hid (RS m=true):=M0 (by unfold RS;rw[show m.op=4 by omega];rfl)
  clear hop e1 e6 e5 e3
  go_enter func167,ntmps167
  go_wp2
  go_ret
  exact⟨by rw[gB HT];rfl,by rw[<-gB HWW];exact gB HW0⟩
 have q4:(o==4)=false:=by simpa using e4
 have HT:Hid (RS m=false):=M0 (by
  unfold RS
  rw[ax (by omega),ax (by omega),ax (by omega)]
  have h3: ¬m.op=3:=by omega
  have h4: ¬m.op=4:=by omega
  simp[h3,h4])
 clear hop e1 e6 e5 e3 e4
 go_enter func167,ntmps167
 go_wp2
 go_ret
 exact⟨by rw[gB HT];rfl,by rw[<-gB HWW];exact gB HW0⟩
theorem at7(n:Nat):iy (n:Int)=TU n:=by
 unfold iy TU
 have h1:gJ ((n:Int)/256)=UInt8.ofNat (n/256):=by
  apply dD.1
  have h:=lh ((n:Int)/256)
  rw[fo]
  omega
 have h2:gJ (n:Int)=UInt8.ofNat n:=by
  apply dD.1
  have h:=lh (n:Int)
  rw[fo]
  omega
 rw[h1,h2]
theorem WO{n:Nat}{x:Int}(h:(n:Int)=x):iy x=TU n:=by rw[<-h];exact at7 n
theorem V_(n:Nat):(TU n).length=2:=rfl
theorem aJ5(B:Nat)(bl:Int)(ts ds:ByteArray)(fa:Option Addr)(fc:Nat)(m:RH)(w:fV)(hW:Wr w B [])(hop:m.op=6)(hbl:(m.block:Int)=bl)(hb0:0<=bl)(hb1:bl<=65535)(hts:ts.data.toList=m.text)(hds:ds.data.toList=m.data)(hA:X9 w fa m.fs)(hB:∀ad,fa=some ad->0<m.fs.length->ad.block<B)(hl:lF m.fs<=1048576)(ht:m.text.length<=1048576)(hd:m.data.length<=1048576):
  f_ Vh 168 #[p_ B,.agg (rM 6 bl ts ds fa m.fs.length fc)] w fun e w'=>
   e=.returned (.tuple #[])/\Kept B w w'/\∃M,Wr w' B M/\M.length<=8388608/\(M=Mq m∨(1472<M.length/\1472<(Mq m).length)):=by
 obtain⟨W,hWW⟩:∃W,W=w.alloc (.cells (rM 6 bl ts ds fa m.fs.length fc) 96):=⟨_,rfl⟩
 have hbB:=hW.lt
 have hbox:W.heap[w.heap.size]?=some (.cells (rM 6 bl ts ds fa m.fs.length fc) 96 (0,0)):=by rw[hWW];exact G8 w _
 have HC:Hid (∀wr,Kept B W wr->∀j,wr.cell? (a_ w.heap.size j)=(rM 6 bl ts ds fa m.fs.length fc)[j]?):=M0 (fun wr hK j=>by
  rw[dh wr w.heap.size j _ _ _ (hK.others _ _ _ _ hbB hbox (by decide))])
 have HW1:Hid (Wr W B []):=M0 (by rw[hWW];exact hW.alloc _)
 have HK0:Hid (Kept B w W):=M0 (by rw[hWW];exact(Kept.refl B w).alloc (by omega) _)
 have hzt:ts.size=m.text.length:=by rw[<-hts,jc]
 have hzd:ds.size=m.data.length:=by rw[<-hds,jc]
 have HA:=M0 hA
 have HB:=M0 hB
 have HTS:=M0 hts
 have HDS:=M0 hds
 have HOP:=M0 hop
 have HBL:=M0 hbl
 have HWW:=M0 hWW
 clear hbox hW hA hB hts hds hop hbl hWW
 go_enter func168,ntmps168
 go_wp2_with fail
 rw[<-gB HWW]
 refine(We B _ 6 [] W HW1 (by rw[gB HWW];simp) (by decide) (by decide) (by simp)).mono ?_
 rintro e w1 ⟨rfl,k1,q1⟩
 have K1:Hid (Wr w1 B (TU 6)):=M0 (by rw[<-WO (n:=6) (x:=6) rfl];simpa using k1)
 have Q1:=M0 q1
 have hcc:=HC w1 q1
 clear k1 q1 HW1
 have HF:=M0 (Ze B fa fc m.fs (TU 6) w1 K1 (HA.lower (HK0.trans Q1).below HB) HB (by omega) (by simp[V_]))
 go_wp2_with fail
 refine HF.mono ?_
 rintro e w9 ⟨rfl,q9,M,k9,l9,h9⟩
 have K9:=M0 k9
 have Q9:=M0 q9
 have H9:=M0 h9
 clear k9 q9 h9 HF
 go_wp2
 go_end0
 refine⟨rfl,HK0.trans (Q1.trans Q9),M,K9,l9,?_⟩
 have h9:=gB H9
 have eb:Mq m=TU 6++nW m.fs:=by unfold Mq;rw[gB HOP];rfl
 rw[eb];exact h9
theorem aI1(B:Nat)(bl:Int)(ts ds:ByteArray)(fa:Option Addr)(fc:Nat)(m:RH)(w:fV)(hW:Wr w B [])(hop:m.op=1)(hbl:(m.block:Int)=bl)(hb0:0<=bl)(hb1:bl<=65535)(hts:ts.data.toList=m.text)(hds:ds.data.toList=m.data)(hA:X9 w fa m.fs)(hB:∀ad,fa=some ad->0<m.fs.length->ad.block<B)(hl:lF m.fs<=1048576)(ht:m.text.length<=1048576)(hd:m.data.length<=1048576):
  f_ Vh 168 #[p_ B,.agg (rM 1 bl ts ds fa m.fs.length fc)] w fun e w'=>
   e=.returned (.tuple #[])/\Kept B w w'/\∃M,Wr w' B M/\M.length<=8388608/\(M=Mq m∨(1472<M.length/\1472<(Mq m).length)):=by
 obtain⟨W,hWW⟩:∃W,W=w.alloc (.cells (rM 1 bl ts ds fa m.fs.length fc) 96):=⟨_,rfl⟩
 have hbB:=hW.lt
 have hbox:W.heap[w.heap.size]?=some (.cells (rM 1 bl ts ds fa m.fs.length fc) 96 (0,0)):=by rw[hWW];exact G8 w _
 have HC:Hid (∀wr,Kept B W wr->∀j,wr.cell? (a_ w.heap.size j)=(rM 1 bl ts ds fa m.fs.length fc)[j]?):=M0 (fun wr hK j=>by
  rw[dh wr w.heap.size j _ _ _ (hK.others _ _ _ _ hbB hbox (by decide))])
 have HW1:Hid (Wr W B []):=M0 (by rw[hWW];exact hW.alloc _)
 have HK0:Hid (Kept B w W):=M0 (by rw[hWW];exact(Kept.refl B w).alloc (by omega) _)
 have hzt:ts.size=m.text.length:=by rw[<-hts,jc]
 have hzd:ds.size=m.data.length:=by rw[<-hds,jc]
 have HA:=M0 hA
 have HB:=M0 hB
 have HTS:=M0 hts
 have HDS:=M0 hds
 have HOP:=M0 hop
 have HBL:=M0 hbl
 have HWW:=M0 hWW
 clear hbox hW hA hB hts hds hop hbl hWW
 go_enter func168,ntmps168
 go_wp2_with fail
 rw[<-gB HWW]
 refine(We B _ 1 [] W HW1 (by rw[gB HWW];simp) (by decide) (by decide) (by simp)).mono ?_
 rintro e w1 ⟨rfl,k1,q1⟩
 have K1:Hid (Wr w1 B (TU 1)):=M0 (by rw[<-WO (n:=1) (x:=1) rfl];simpa using k1)
 have Q1:=M0 q1
 have hcc:=HC w1 q1
 clear k1 q1 HW1
 go_wp2_with fail
 refine(aa0 B _ ts ⟨#[111,99,116,101,116]⟩ _ w1 K1 rfl (by rw[V_];show 2+(ts.size+5)<=_;omega)).mono ?_
 rintro e w2 ⟨rfl,k2,q2⟩
 have K2:Hid (Wr w2 B (TU 1++(m.text++ [0]++(Qy++ [0])))):=M0 (by rw[<-gB HTS];exact k2)
 have Q2:=M0 (Q1.trans q2)
 have hcc2:=HC w2 Q2
 clear k2 q2 K1 hcc Q1
 have HF:=M0 (Ze B fa fc m.fs (TU 1++(m.text++ [0]++(Qy++ [0]))) w2 K2 (HA.lower (HK0.trans Q2).below HB) HB (by omega) (by simp[V_,Qy];omega))
 go_wp2_with fail
 refine HF.mono ?_
 rintro e w9 ⟨rfl,q9,M,k9,l9,h9⟩
 have K9:=M0 k9
 have Q9:=M0 q9
 have H9:=M0 h9
 clear k9 q9 h9 HF
 go_wp2
 go_end0
 refine⟨rfl,HK0.trans (Q2.trans Q9),M,K9,l9,?_⟩
 have h9:=gB H9
 have eb:Mq m=TU 1++(m.text++ [0]++(Qy++ [0]))++nW m.fs:=by unfold Mq;rw[gB HOP];simp
 rw[eb];exact h9
theorem aK5(B:Nat)(bl:Int)(ts ds:ByteArray)(fa:Option Addr)(fc:Nat)(m:RH)(w:fV)(hW:Wr w B [])(hop:m.op=4)(hbl:(m.block:Int)=bl)(hb0:0<=bl)(hb1:bl<=65535)(hts:ts.data.toList=m.text)(hds:ds.data.toList=m.data)(hA:X9 w fa m.fs)(hB:∀ad,fa=some ad->0<m.fs.length->ad.block<B)(hl:lF m.fs<=1048576)(ht:m.text.length<=1048576)(hd:m.data.length<=1048576):
  f_ Vh 168 #[p_ B,.agg (rM 4 bl ts ds fa m.fs.length fc)] w fun e w'=>
   e=.returned (.tuple #[])/\Kept B w w'/\∃M,Wr w' B M/\M.length<=8388608/\(M=Mq m∨(1472<M.length/\1472<(Mq m).length)):=by
 obtain⟨W,hWW⟩:∃W,W=w.alloc (.cells (rM 4 bl ts ds fa m.fs.length fc) 96):=⟨_,rfl⟩
 have hbB:=hW.lt
 have hbox:W.heap[w.heap.size]?=some (.cells (rM 4 bl ts ds fa m.fs.length fc) 96 (0,0)):=by rw[hWW];exact G8 w _
 have HC:Hid (∀wr,Kept B W wr->∀j,wr.cell? (a_ w.heap.size j)=(rM 4 bl ts ds fa m.fs.length fc)[j]?):=M0 (fun wr hK j=>by
  rw[dh wr w.heap.size j _ _ _ (hK.others _ _ _ _ hbB hbox (by decide))])
 have HW1:Hid (Wr W B []):=M0 (by rw[hWW];exact hW.alloc _)
 have HK0:Hid (Kept B w W):=M0 (by rw[hWW];exact(Kept.refl B w).alloc (by omega) _)
 have hzt:ts.size=m.text.length:=by rw[<-hts,jc]
 have hzd:ds.size=m.data.length:=by rw[<-hds,jc]
 have HA:=M0 hA
 have HB:=M0 hB
 have HTS:=M0 hts
 have HDS:=M0 hds
 have HOP:=M0 hop
 have HBL:=M0 hbl
 have HWW:=M0 hWW
 clear hbox hW hA hB hts hds hop hbl hWW
 go_enter func168,ntmps168
 go_wp2_with fail
 rw[<-gB HWW]
 refine(We B _ 4 [] W HW1 (by rw[gB HWW];simp) (by decide) (by decide) (by simp)).mono ?_
 rintro e w1 ⟨rfl,k1,q1⟩
 have K1:Hid (Wr w1 B (TU 4)):=M0 (by rw[<-WO (n:=4) (x:=4) rfl];simpa using k1)
 have Q1:=M0 q1
 have hcc:=HC w1 q1
 clear k1 q1 HW1
 go_wp2_with fail
 refine(We B _ bl _ w1 K1 rfl hb0 hb1 (by simp[V_])).mono ?_
 rintro e w2 ⟨rfl,k2,q2⟩
 have K2:Hid (Wr w2 B (TU m.op++TU m.block)):=M0 (by rw[gB HOP,<-WO HBL];exact k2)
 have Q2:=M0 (Q1.trans q2)
 have hcc2:=HC w2 Q2
 clear k2 q2 K1 hcc Q1
 go_wp2
 go_end0
 refine⟨rfl,HK0.trans Q2,_,K2,by simp[V_],au ?_⟩
 unfold Mq;rw[gB HOP];rfl
theorem aK2(B:Nat)(bl:Int)(ts ds:ByteArray)(fa:Option Addr)(fc:Nat)(m:RH)(w:fV)(hW:Wr w B [])(hop:m.op=3)(hbl:(m.block:Int)=bl)(hb0:0<=bl)(hb1:bl<=65535)(hts:ts.data.toList=m.text)(hds:ds.data.toList=m.data)(hA:X9 w fa m.fs)(hB:∀ad,fa=some ad->0<m.fs.length->ad.block<B)(hl:lF m.fs<=1048576)(ht:m.text.length<=1048576)(hd:m.data.length<=1048576):
  f_ Vh 168 #[p_ B,.agg (rM 3 bl ts ds fa m.fs.length fc)] w fun e w'=>
   e=.returned (.tuple #[])/\Kept B w w'/\∃M,Wr w' B M/\M.length<=8388608/\(M=Mq m∨(1472<M.length/\1472<(Mq m).length)):=by
 obtain⟨W,hWW⟩:∃W,W=w.alloc (.cells (rM 3 bl ts ds fa m.fs.length fc) 96):=⟨_,rfl⟩
 have hbB:=hW.lt
 have hbox:W.heap[w.heap.size]?=some (.cells (rM 3 bl ts ds fa m.fs.length fc) 96 (0,0)):=by rw[hWW];exact G8 w _
 have HC:Hid (∀wr,Kept B W wr->∀j,wr.cell? (a_ w.heap.size j)=(rM 3 bl ts ds fa m.fs.length fc)[j]?):=M0 (fun wr hK j=>by
  rw[dh wr w.heap.size j _ _ _ (hK.others _ _ _ _ hbB hbox (by decide))])
 have HW1:Hid (Wr W B []):=M0 (by rw[hWW];exact hW.alloc _)
 have HK0:Hid (Kept B w W):=M0 (by rw[hWW];exact(Kept.refl B w).alloc (by omega) _)
 have hzt:ts.size=m.text.length:=by rw[<-hts,jc]
 have hzd:ds.size=m.data.length:=by rw[<-hds,jc]
 have HA:=M0 hA
 have HB:=M0 hB
 have HTS:=M0 hts
 have HDS:=M0 hds
 have HOP:=M0 hop
 have HBL:=M0 hbl
 have HWW:=M0 hWW
 clear hbox hW hA hB hts hds hop hbl hWW
 go_enter func168,ntmps168
 go_wp2_with fail
 rw[<-gB HWW]
 refine(We B _ 3 [] W HW1 (by rw[gB HWW];simp) (by decide) (by decide) (by simp)).mono ?_
 rintro e w1 ⟨rfl,k1,q1⟩
 have K1:Hid (Wr w1 B (TU 3)):=M0 (by rw[<-WO (n:=3) (x:=3) rfl];simpa using k1)
 have Q1:=M0 q1
 have hcc:=HC w1 q1
 clear k1 q1 HW1
 go_wp2_with fail
 refine(We B _ bl _ w1 K1 rfl hb0 hb1 (by simp[V_])).mono ?_
 rintro e w2 ⟨rfl,k2,q2⟩
 have K2:Hid (Wr w2 B (TU m.op++TU m.block)):=M0 (by rw[gB HOP,<-WO HBL];exact k2)
 have Q2:=M0 (Q1.trans q2)
 have hcc2:=HC w2 Q2
 clear k2 q2 K1 hcc Q1
 go_wp2_with fail
 refine(jC B _ ds _ w2 K2 rfl (by simp[V_];omega)).mono ?_
 rintro e w3 ⟨rfl,k3,q3⟩
 have K3:Hid (Wr w3 B (TU m.op++TU m.block++m.data)):=M0 (by rw[<-gB HDS];exact k3)
 have Q3:=M0 (Q2.trans q3)
 clear k3 q3
 go_wp2
 go_end0
 refine⟨rfl,HK0.trans Q3,_,K3,by simp[V_];omega,au ?_⟩
 unfold Mq;rw[gB HOP];simp
theorem aJ4(B:Nat)(bl:Int)(ts ds:ByteArray)(fa:Option Addr)(fc:Nat)(m:RH)(w:fV)(hW:Wr w B [])(hop:m.op=5)(hbl:(m.block:Int)=bl)(hb0:0<=bl)(hb1:bl<=65535)(hts:ts.data.toList=m.text)(hds:ds.data.toList=m.data)(hA:X9 w fa m.fs)(hB:∀ad,fa=some ad->0<m.fs.length->ad.block<B)(hl:lF m.fs<=1048576)(ht:m.text.length<=1048576)(hd:m.data.length<=1048576):
  f_ Vh 168 #[p_ B,.agg (rM 5 bl ts ds fa m.fs.length fc)] w fun e w'=>
   e=.returned (.tuple #[])/\Kept B w w'/\∃M,Wr w' B M/\M.length<=8388608/\(M=Mq m∨(1472<M.length/\1472<(Mq m).length)):=by
 obtain⟨W,hWW⟩:∃W,W=w.alloc (.cells (rM 5 bl ts ds fa m.fs.length fc) 96):=⟨_,rfl⟩
 have hbB:=hW.lt
 have hbox:W.heap[w.heap.size]?=some (.cells (rM 5 bl ts ds fa m.fs.length fc) 96 (0,0)):=by rw[hWW];exact G8 w _
 have HC:Hid (∀wr,Kept B W wr->∀j,wr.cell? (a_ w.heap.size j)=(rM 5 bl ts ds fa m.fs.length fc)[j]?):=M0 (fun wr hK j=>by
  rw[dh wr w.heap.size j _ _ _ (hK.others _ _ _ _ hbB hbox (by decide))])
 have HW1:Hid (Wr W B []):=M0 (by rw[hWW];exact hW.alloc _)
 have HK0:Hid (Kept B w W):=M0 (by rw[hWW];exact(Kept.refl B w).alloc (by omega) _)
 have hzt:ts.size=m.text.length:=by rw[<-hts,jc]
 have hzd:ds.size=m.data.length:=by rw[<-hds,jc]
 have HA:=M0 hA
 have HB:=M0 hB
 have HTS:=M0 hts
 have HDS:=M0 hds
 have HOP:=M0 hop
 have HBL:=M0 hbl
 have HWW:=M0 hWW
 clear hbox hW hA hB hts hds hop hbl hWW
 go_enter func168,ntmps168
 go_wp2_with fail
 rw[<-gB HWW]
 refine(We B _ 5 [] W HW1 (by rw[gB HWW];simp) (by decide) (by decide) (by simp)).mono ?_
 rintro e w1 ⟨rfl,k1,q1⟩
 have K1:Hid (Wr w1 B (TU 5)):=M0 (by rw[<-WO (n:=5) (x:=5) rfl];simpa using k1)
 have Q1:=M0 q1
 have hcc:=HC w1 q1
 clear k1 q1 HW1
 go_wp2_with fail
 refine(We B _ bl _ w1 K1 rfl hb0 hb1 (by simp[V_])).mono ?_
 rintro e w2 ⟨rfl,k2,q2⟩
 have K2:Hid (Wr w2 B (TU m.op++TU m.block)):=M0 (by rw[gB HOP,<-WO HBL];exact k2)
 have Q2:=M0 (Q1.trans q2)
 have hcc2:=HC w2 Q2
 clear k2 q2 K1 hcc Q1
 go_wp2_with fail
 refine(ar1 B _ ts _ w2 K2 rfl (by simp[V_];omega)).mono ?_
 rintro e w3 ⟨rfl,k3,q3⟩
 have K3:Hid (Wr w3 B (TU m.op++TU m.block++(m.text++ [0]))):=M0 (by rw[<-gB HTS];exact k3)
 have Q3:=M0 (Q2.trans q3)
 clear k3 q3
 go_wp2
 go_end0
 refine⟨rfl,HK0.trans Q3,_,K3,by simp[V_];omega,au ?_⟩
 unfold Mq;rw[gB HOP];simp
theorem X8(s:ByteArray)(w:fV):f_ Vh 166 #[.string s] w fun e w'=>e=.returned (.bool (decide ((s.size:Int)<=1024)))/\w=w':=by
 go_enter func166,ntmps166
 go_wp2
 go_ret
 exact⟨rfl,rfl⟩
theorem aD0{m:RH}(h:RS m=true):m.op=1∨m.op=3∨m.op=4∨m.op=5∨m.op=6:=by
 unfold RS at h
 by_cases h1:m.op=1
 ·exact .inl h1
 ·rw[ax h1]at h
  by_cases h6:m.op=6
  ·exact .inr (.inr (.inr (.inr h6)))
  ·rw[ax h6]at h
   by_cases h5:m.op=5
   ·exact .inr (.inr (.inr (.inl h5)))
   ·rw[ax h5]at h
    simp at h
    rcases h with h|h
    ·exact .inr (.inl h)
    ·exact .inr (.inr (.inl h))
theorem ay8(B:Nat)(o bl:Int)(ts ds:ByteArray)(fa:Option Addr)(fc:Nat)(m:RH)(w:fV)(hW:Wr w B [])(hop:(m.op:Int)=o)(htold:RS m=true)(hbl:(m.block:Int)=bl)(hb0:0<=bl)(hb1:bl<=65535)(hts:ts.data.toList=m.text)(hds:ds.data.toList=m.data)(hA:X9 w fa m.fs)(hB:∀ad,fa=some ad->0<m.fs.length->ad.block<B)(hl:lF m.fs<=1048576)(ht:m.text.length<=1048576)(hd:m.data.length<=1048576):
  f_ Vh 168 #[p_ B,.agg (rM o bl ts ds fa m.fs.length fc)] w fun e w'=>
   e=.returned (.tuple #[])/\Kept B w w'/\∃M,Wr w' B M/\M.length<=8388608/\(M=Mq m∨(1472<M.length/\1472<(Mq m).length)):=by
 rcases aD0 htold with h|h|h|h|h
 ·obtain rfl:o=1:=by omega
  exact aI1 B bl ts ds fa fc m w hW h hbl hb0 hb1 hts hds hA hB hl ht hd
 ·obtain rfl:o=3:=by omega
  exact aK2 B bl ts ds fa fc m w hW h hbl hb0 hb1 hts hds hA hB hl ht hd
 ·obtain rfl:o=4:=by omega
  exact aK5 B bl ts ds fa fc m w hW h hbl hb0 hb1 hts hds hA hB hl ht hd
 ·obtain rfl:o=5:=by omega
  exact aJ4 B bl ts ds fa fc m w hW h hbl hb0 hb1 hts hds hA hB hl ht hd
 ·obtain rfl:o=6:=by omega
  exact aJ5 B bl ts ds fa fc m w hW h hbl hb0 hb1 hts hds hA hB hl ht hd
theorem qI(w:fV):Wr (w.alloc (.cells #[.slice none 0 0] 182)) w.heap.size []:=⟨_,G8 w _,Vp _ _ _ _⟩
theorem X_{s t:ByteArray}{a b:Int}(h:s=t)(k:a=b):Ending.returned (.tuple #[.string s,.int .i64 a])=.returned (.tuple #[.string t,.int .i64 b]):=by rw[h,k]
theorem Z7(o bl:Int)(ts ds:ByteArray)(fa:Option Addr)(fc:Nat)(m:RH)(w:fV)(hop:(m.op:Int)=o)(hbl:(m.block:Int)=bl)(hb0:0<=bl)(hb1:bl<=65535)(hts:ts.data.toList=m.text)(hds:ds.data.toList=m.data)(hA:X9 w fa m.fs)(hl:lF m.fs<=1048576)(ht:m.text.length<=1048576)(hd:m.data.length<=1048576):
  f_ Vh 128 #[.agg (rM o bl ts ds fa m.fs.length fc)] w fun e w'=>
   e=.returned (.tuple #[.string ⟨(U7 m).toArray⟩,.int .i64 (UU m)])/\gm w.heap.size w w':=by
 obtain⟨W,hWW⟩:∃W,W=w.alloc (.cells (rM o bl ts ds fa m.fs.length fc) 96):=⟨_,rfl⟩
 have hW0:gm w.heap.size w W:=by rw[hWW];exact(R9 _ _).alloc (ai _) _
 have hWz:W.heap.size=w.heap.size+1:=by rw[hWW];simp
 have hbox:∀j,W.cell? (a_ w.heap.size j)=(rM o bl ts ds fa m.fs.length fc)[j]?:=fun j=>by rw[hWW,dh _ w.heap.size j _ _ (0,0) (G8 w _)]
 have hdz:ds.size=m.data.length:=by rw[<-hds,jc]
 have HM:=M0 (Jp o bl ts ds fa fc m W hop hts (hA.below hW0 (ai _)) (by omega) (by omega))
 have HA:=M0 hA
 have HW0:=M0 hW0
 have HWZ:=M0 hWz
 have HBX:=M0 hbox
 have HWW:=M0 hWW
 have HTS:=M0 hts
 have HDS:=M0 hds
 have HOP:=M0 hop
 have HBL:=M0 hbl
 clear hW0 hWz hbox hA hWW hts hds hop hbl
 go_enter func128,ntmps128
 go_wp2_with fail
 rw[<-gB HWW]
 refine HM.mono ?_
 rintro e w1 ⟨rfl,hb1'⟩
 have hz1:w.heap.size+1<=w1.heap.size:=by have:=hb1'.size;rw[gB HWZ]at this;exact this
 have hcc1:∀j,w1.cell? (a_ w.heap.size j)=(rM o bl ts ds fa m.fs.length fc)[j]?:=fun j=>by
  rw[hb1'.cell (p:=(a_ w.heap.size j)) (by show w.heap.size<_;rw[gB HWZ];omega)];exact HBX j
 have HB1:Hid (gm w.heap.size w w1):=M0 (HW0.trans (hb1'.mono (by rw[gB HWZ];omega)))
 have HC1:=M0 hcc1
 clear hb1' HM HWW HW0 HWZ HBX
 by_cases htold:RS m=true
 ·rw[htold]
  have HI:=M0 (X8 ds w1)
  have HT:=M0 (ay8 w1.heap.size o bl ts ds fa fc m _ (qI w1) HOP htold HBL hb0 hb1 HTS HDS (HA.below (HB1.alloc (by omega) _) (ai _)) (HA.old (by omega)) hl ht hd)
  by_cases h3:o=3/\1024<m.data.length
  ·obtain⟨e3,hbig⟩:=h3
   have HK:Hid (UU m=7/\U7 m=[]):=M0 (by
    have hop:=gB HOP
    have:UU m=7:=by unfold UU;rw[htold,ax (by simp),ay ⟨by omega,hbig⟩]
    exact⟨this,by unfold U7;rw[this];rfl⟩)
   subst e3
   have hd2:decide ((ds.size:Int)<=1024)=false:=by rw[dB];omega
   rw[hd2]at HI
   clear hd2 htold HT
   go_wp2_with (go_at_call 166;refine HI.mono ?_;rintro e u ⟨rfl,rfl⟩)
   go_ret2
   exact⟨X_ (by rw[HK.2]) (by rw[HK.1];rfl),HB1⟩
  ·have HN3:Hid (¬(m.op=3/\1024<m.data.length)):=M0 (by have:=gB HOP;omega)
   have HKT:Hid (UU m=if 1472<(Mq m).length then 7 else 0):=M0 (by unfold UU;rw[htold,ax (by simp),ax (gB HN3)])
   have cont:(o==3)=false∨(o=3/\decide ((ds.size:Int)<=1024)=true):=by
    by_cases e:o=3
    ·exact .inr ⟨e,by rw[decide_eq_true_iff];omega⟩
    ·exact .inl (by simpa using e)
   clear h3 htold HN3
   have hccA:∀j ob,(w1.alloc ob).cell? (a_ w.heap.size j)=(rM o bl ts ds fa m.fs.length fc)[j]?:=fun j ob=>by
    rw[((R9 w1.heap.size w1).alloc (ai _) ob).cell (p:=(a_ w.heap.size j)) (by show w.heap.size<_;omega)];exact HC1 j
   rcases cont with e3|⟨e3,e4⟩
   ·go_wp2_with fail
    refine HT.mono ?_
    rintro e w2 ⟨rfl,q2,M,k2,l2,h2⟩
    obtain⟨v,hv,hown⟩:=k2
    obtain⟨ao,cp,hv'⟩:=wV hown
    have hc2:=Vm hv
    rw[hv']at hc2
    have K2:Hid (Wr w2 w1.heap.size M):=M0 ⟨v,hv,hown⟩
    have HB2:Hid (gm w.heap.size w w2):=M0 ((HB1.alloc (by omega) _).trans (q2.below.mono (by omega)))
    have HX:=M0 (lG w1.heap.size M w2 ⟨v,hv,hown⟩)
    have H2:=M0 h2
    clear hv hown hv' q2 h2 v hccA
    by_cases hM:1472<M.length
    ·have hM':(1472:Int)<(M.length:Int):=by omega
     have HK:Hid (UU m=7/\U7 m=[]):=M0 (by
      have:UU m=7:=by
       rw[gB HKT,ay]
       rcases gB H2 with rfl|⟨_,h⟩
       ·exact hM
       ·exact h
      exact⟨this,by unfold U7;rw[this];rfl⟩)
     go_wp2
     go_ret2
     exact⟨X_ (by rw[HK.2]) (by rw[HK.1];rfl),HB2⟩
    ·have hM': ¬(1472:Int)<(M.length:Int):=by omega
     have HK:Hid (UU m=0/\U7 m=M):=M0 (by
      rcases gB H2 with rfl|⟨h,_⟩
      ·have:UU m=0:=by rw[gB HKT,ax hM]
       exact⟨this,by unfold U7;rw[ay this]⟩
      ·exact absurd h hM)
     go_wp2_with fail
     refine HX.mono ?_
     rintro e w3 ⟨rfl,rfl⟩
     go_wp2
     go_ret2
     exact⟨X_ (by rw[HK.2]) (by rw[HK.1];rfl),HB2⟩
   ·subst e3
    rw[e4]at HI
    clear e4
    go_wp2_with (go_at_call 166;refine HI.mono ?_;rintro e u ⟨rfl,rfl⟩)
    refine HT.mono ?_
    rintro e w2 ⟨rfl,q2,M,k2,l2,h2⟩
    obtain⟨v,hv,hown⟩:=k2
    obtain⟨ao,cp,hv'⟩:=wV hown
    have hc2:=Vm hv
    rw[hv']at hc2
    have K2:Hid (Wr w2 w1.heap.size M):=M0 ⟨v,hv,hown⟩
    have HB2:Hid (gm w.heap.size w w2):=M0 ((HB1.alloc (by omega) _).trans (q2.below.mono (by omega)))
    have HX:=M0 (lG w1.heap.size M w2 ⟨v,hv,hown⟩)
    have H2:=M0 h2
    clear hv hown hv' q2 h2 v hccA
    by_cases hM:1472<M.length
    ·have hM':(1472:Int)<(M.length:Int):=by omega
     have HK:Hid (UU m=7/\U7 m=[]):=M0 (by
      have:UU m=7:=by
       rw[gB HKT,ay]
       rcases gB H2 with rfl|⟨_,h⟩
       ·exact hM
       ·exact h
      exact⟨this,by unfold U7;rw[this];rfl⟩)
     go_wp2
     go_ret2
     exact⟨X_ (by rw[HK.2]) (by rw[HK.1];rfl),HB2⟩
    ·have hM': ¬(1472:Int)<(M.length:Int):=by omega
     have HK:Hid (UU m=0/\U7 m=M):=M0 (by
      rcases gB H2 with rfl|⟨h,_⟩
      ·have:UU m=0:=by rw[gB HKT,ax hM]
       exact⟨this,by unfold U7;rw[ay this]⟩
      ·exact absurd h hM)
     go_wp2_with fail
     refine HX.mono ?_
     rintro e w3 ⟨rfl,rfl⟩
     go_wp2
     go_ret2
     exact⟨X_ (by rw[HK.2]) (by rw[HK.1];rfl),HB2⟩
 ·have ht':RS m=false:=by simpa using htold
  have HK:Hid (UU m=2/\U7 m=[]):=M0 (by
   have:UU m=2:=by unfold UU;rw[ay ht']
   exact⟨this,by unfold U7;rw[this];rfl⟩)
  rw[ht']
  clear htold ht'
  go_wp2
  go_ret2
  exact⟨X_ (by rw[HK.2]) (by rw[HK.1];rfl),HB1⟩
theorem Wj(o bl:Int)(ts ds:ByteArray)(fa:Option Addr)(fc:Nat)(m:RH)(w:fV)(hop:(m.op:Int)=o)(hbl:(m.block:Int)=bl)(hb0:0<=bl)(hb1:bl<=65535)(hts:ts.data.toList=m.text)(hds:ds.data.toList=m.data)(hA:X9 w fa m.fs)(hl:lF m.fs<=1048576)(ht:m.text.length<=1048576)(hd:m.data.length<=1048576):
  f_ Vh 74 #[.agg (rM o bl ts ds fa m.fs.length fc)] w fun e w'=>
   e=.returned (.tuple #[.string ⟨(U7 m).toArray⟩,.int .i64 (UU m)])/\gm w.heap.size w w':=by
 have HC:=M0 (fun ob=>Z7 o bl ts ds fa fc m (w.alloc ob) hop hbl hb0 hb1 hts hds (hA.below ((R9 _ w).alloc (ai _) _) (ai _)) hl ht hd)
 clear hA hts hds hop hbl
 go_enter func74,ntmps74
 go_wp2_with fail
 refine(HC _).mono ?_
 rintro e w1 ⟨rfl,hb⟩
 have HB:Hid (gm w.heap.size w w1):=M0 (((R9 _ w).alloc (ai _) _).trans (hb.mono (by simp)))
 clear hb HC
 go_wp2
 go_ret2
 exact⟨rfl,HB⟩
end Tf
namespace Tf
open Bs
def Rf(fs:pO):List Value:=fs.flatMap fun f=> [.string ⟨f.1.toArray⟩,.string ⟨f.2.toArray⟩]
theorem ZW(a b:pO):Rf (a++b)=Rf a++Rf b:=by simp[Rf]
theorem aj7(fs:pO)(i:Nat)(h:i<fs.length):(Rf fs)[i*2]?=some (.string ⟨fs[i].1.toArray⟩)/\(Rf fs)[i*2+1]?=some (.string ⟨fs[i].2.toArray⟩):=by
 induction fs generalizing i with
 |nil=>simp at h
 |cons o r ih=>
  cases i with
  |zero=>exact⟨rfl,rfl⟩
  |succ i=>
   have:=ih i (by simpa using h)
   simp only[Rf,bF]at this ⊢
   rw[show(i+1)*2=i*2+1+1 by omega]
   simpa using this
theorem El(ad:Addr)(n:Nat):((a_ ((ad.add n).block) ((ad.add n).off+1)):Addr)=ad.add (n+1):=by
 unfold Addr.add
 by_cases h:n=0
 ·subst h;simp
 ·simp[h];omega
theorem X9.Jr{w:fV}{ad:Addr}{fs:pO}(h:∀j u,(Rf fs)[j]?=some u->w.cell? (ad.add j)=some u):X9 w (some ad) fs:=fun i hi=>by
 obtain⟨g0,g1⟩:=aj7 fs i hi
 exact⟨ad,rfl,h _ _ g0,by rw[El];exact h _ _ g1⟩
end Tf
namespace Tf
open Bs
open Rd (iL iH gH gV mH il jh vP pu za vO oo om)
theorem aa1(l:List UInt8):Lib.indexByte l 0=match cut l with|none=> -1|some (a,_)=>(a.length:Int):=by
 induction l with
 |nil=>rfl
 |cons c r ih=>
  unfold Lib.indexByte cut
  by_cases hc:c=0
  ·subst hc;rfl
  ·have e1:(c==0)=false:=by simpa using hc
   rw[e1,ax hc,ih]
   simp only[bN,fD]
   cases hr:cut r with
   |none=>rfl
   |some p=>
    have:(((p.1.length:Nat):Int)== -1)=false:=by simp
    simp only[this,bN,fD,aj]
    rfl
theorem av7{l a b:List UInt8}(h:cut l=some (a,b)):l.take a.length=a/\l.drop a.length=0::b:=by
 obtain⟨h1,_⟩:=FE h
 rw[h1]
 exact⟨by simp,by simp⟩
theorem WV(B:Nat)(l a b:List UInt8)(w:fV)(h:iL w B l)(hs:l.length<=268435456)(hc:cut l=some (a,b)):
  f_ Vh 163 #[p_ B] w fun e w'=>e=.returned (.string ⟨a.toArray⟩)/\iL w' B b/\w.grownBy w' (some B):=by
 have hcl:=Vm h
 have hln:=uA hc
 obtain⟨t1,t2⟩:=av7 hc
 have hi:=aa1 l
 rw[hc]at hi
 simp only at hi
 have HI:=M0 (Sf.strings_Index_one ⟨l.toArray⟩ 0 w)
 rw[show(⟨l.toArray⟩:ByteArray).data.toList=l from rfl,hi]at HI
 have HT:=M0 (za B l a.length w h (by omega) (by omega))
 rw[t1,t2]at HT
 have HK:=M0 (fun(u:fV) (hu:iL u B (0::b))=>pu B (0::b) 1 u hu (by simp) (by simp only[aj,maxLen];omega))
 have hge:(0:Int)<=(a.length:Int):=by omega
 clear h hi t1 t2 hln
 go_enter func163,ntmps163
 go_wp2_with fail
 refine HI.mono ?_
 rintro e u ⟨rfl,hu⟩
 obtain rfl:=hu.symm
 go_wp2_with fail
 refine(oo _ _).mono ?_
 rintro _ w3 ⟨rfl,hu⟩
 obtain rfl:=hu.symm
 go_wp2_with fail
 refine HT.mono ?_
 rintro e w1 ⟨rfl,r1,g1⟩
 have R1:=M0 r1
 have G1:=M0 g1
 clear r1 g1 HT HI hcl
 go_wp2_with fail
 refine(HK _ R1).mono ?_
 rintro e w2 ⟨rfl,hw2⟩
 have HR2:Hid (iL w2 B b):=M0 (by rw[hw2];exact R1.set b)
 have HG2:Hid (w.grownBy w2 (some B)):=M0 (by rw[hw2];exact gH G1 (mH _))
 clear hw2 HK
 go_wp2
 go_ret
 exact⟨rfl,HR2,HG2⟩
theorem Yo(B:Nat)(l:List UInt8)(w:fV)(h:iL w B l)(hc:cut l=none):
  f_ Vh 163 #[p_ B] w fun e w'=>e=.panicked (iH 2)/\w=w':=by
 have hcl:=Vm h
 have hi:=aa1 l
 rw[hc]at hi
 simp only at hi
 have HI:=M0 (Sf.strings_Index_one ⟨l.toArray⟩ 0 w)
 rw[show(⟨l.toArray⟩:ByteArray).data.toList=l from rfl,hi]at HI
 clear h hi
 go_enter func163,ntmps163
 go_wp2_with fail
 refine HI.mono ?_
 rintro e u ⟨rfl,hu⟩
 obtain rfl:=hu.symm
 go_wp2_with fail
 refine(om _ _).mono ?_
 rintro _ w3 ⟨rfl,hu⟩
 obtain rfl:=hu.symm
 exact⟨rfl,rfl,rfl⟩
theorem Zk(s:ByteArray)(l:List UInt8)(w:fV)(hsl:s.data.toList=l)(hl:l.length<=1099511627776):
  f_ Vh 164 #[.string s] w fun e w'=>e=.returned (.bool (pg l==Qy))/\gm w.heap.size w w':=by
 have HS:=M0 (xB s l w hsl hl)
 obtain⟨ls,hls⟩:∃s:ByteArray,s=⟨(pg l).toArray⟩:=⟨_,rfl⟩
 rw[<-hls]at HS
 have hq:(ls.toList==[111,99,116,101,116])=(pg l==Qy):=by
  rw[Vw,hls];rfl
 clear hls
 go_enter func164,ntmps164
 go_wp2_with fail
 refine HS.mono ?_
 rintro e u ⟨rfl,hb⟩
 have HB:=M0 hb
 clear hb HS
 go_wp2
 go_ret
 exact⟨by rw[<-hq];rfl,HB⟩
theorem Yn(B:Nat)(l a b:List UInt8)(w:fV)(h:iL w B l)(hs:l.length<=268435456)(hc:cut l=some (a,b))(hn:iM a=true):
  f_ Vh 100 #[p_ B,.func (.func 163) #[] #[],.func (.func 80) #[] #[],.int .i64 2] w fun e w'=>e=.returned (.string ⟨a.toArray⟩)/\iL w' B b/\w.grownBy w' (some B):=by
 have hln:=uA hc
 have HN:=M0 (WV B l a b w h hs hc)
 have HI:=M0 (fun u=>lI ⟨a.toArray⟩ a u rfl (by omega))
 rw[hn]at HI
 clear h hs hc hn hln
 go_enter func100,zA
 go_wp2_with fail
 refine HN.mono ?_
 rintro e w1 ⟨rfl,h1,g1⟩
 have H1:=M0 h1
 have G1:=M0 g1
 clear h1 g1
 go_wp2_with fail
 refine(HI _).mono ?_
 rintro e w2 ⟨rfl,hu⟩
 obtain rfl:=hu.symm
 go_wp2_with fail
 refine(oo _ _).mono ?_
 rintro _ w3 ⟨rfl,hu⟩
 obtain rfl:=hu.symm
 go_wp2
 go_ret
 exact⟨rfl,H1,G1⟩
theorem XY(B:Nat)(l a b:List UInt8)(w:fV)(h:iL w B l)(hs:l.length<=268435456)(hc:cut l=some (a,b))(hn:iM a=false):
  f_ Vh 100 #[p_ B,.func (.func 163) #[] #[],.func (.func 80) #[] #[],.int .i64 2] w fun e w'=>e=.panicked (iH 2)/\w.grownBy w' (some B):=by
 have hln:=uA hc
 have HN:=M0 (WV B l a b w h hs hc)
 have HI:=M0 (fun u=>lI ⟨a.toArray⟩ a u rfl (by omega))
 rw[hn]at HI
 clear h hs hc hn hln
 go_enter func100,zA
 go_wp2_with fail
 refine HN.mono ?_
 rintro e w1 ⟨rfl,h1,g1⟩
 have G1:=M0 g1
 clear h1 g1
 go_wp2_with fail
 refine(HI _).mono ?_
 rintro e w2 ⟨rfl,hu⟩
 obtain rfl:=hu.symm
 go_wp2_with fail
 refine(om _ _).mono ?_
 rintro _ w3 ⟨rfl,hu⟩
 obtain rfl:=hu.symm
 exact⟨rfl,rfl,G1⟩
theorem XF(B:Nat)(l:List UInt8)(w:fV)(h:iL w B l)(hc:cut l=none):
  f_ Vh 100 #[p_ B,.func (.func 163) #[] #[],.func (.func 80) #[] #[],.int .i64 2] w fun e w'=>e=.panicked (iH 2)/\w.grownBy w' (some B):=by
 have HN:=M0 (Yo B l w h hc)
 clear h hc
 go_enter func100,zA
 go_wp2_with fail
 refine HN.mono ?_
 rintro e w1 ⟨rfl,rfl⟩
 exact⟨rfl,rfl,il _ _⟩
theorem aj8(B:Nat)(l a b:List UInt8)(w:fV)(h:iL w B l)(hs:l.length<=268435456)(hc:cut l=some (a,b))(hn:(pg a==Qy)=true):
  f_ Vh 100 #[p_ B,.func (.func 163) #[] #[],.func (.func 164) #[] #[],.int .i64 2] w fun e w'=>e=.returned (.string ⟨a.toArray⟩)/\iL w' B b/\w.grownBy w' (some B):=by
 have hln:=uA hc
 have HN:=M0 (WV B l a b w h hs hc)
 have HI:=M0 (fun u=>Zk ⟨a.toArray⟩ a u rfl (by omega))
 rw[hn]at HI
 clear h hs hc hn hln
 go_enter func100,zA
 go_wp2_with fail
 refine HN.mono ?_
 rintro e w1 ⟨rfl,h1,g1⟩
 have H1:=M0 h1
 have G1:=M0 g1
 clear h1 g1
 go_wp2_with fail
 refine(HI _).mono ?_
 rintro e w2 ⟨rfl,hb⟩
 have HR2:Hid (iL w2 B b):=M0 ((hb.block B H1.lt).trans H1)
 have HG2:Hid (w.grownBy w2 (some B)):=M0 (jh G1 hb)
 clear hb
 go_wp2_with fail
 refine(oo _ _).mono ?_
 rintro _ w3 ⟨rfl,hu⟩
 obtain rfl:=hu.symm
 go_wp2
 go_ret
 exact⟨rfl,HR2,HG2⟩
theorem af7(B:Nat)(l a b:List UInt8)(w:fV)(h:iL w B l)(hs:l.length<=268435456)(hc:cut l=some (a,b))(hn:(pg a==Qy)=false):
  f_ Vh 100 #[p_ B,.func (.func 163) #[] #[],.func (.func 164) #[] #[],.int .i64 2] w fun e w'=>e=.panicked (iH 2)/\w.grownBy w' (some B):=by
 have hln:=uA hc
 have HN:=M0 (WV B l a b w h hs hc)
 have HI:=M0 (fun u=>Zk ⟨a.toArray⟩ a u rfl (by omega))
 rw[hn]at HI
 clear h hs hc hn hln
 go_enter func100,zA
 go_wp2_with fail
 refine HN.mono ?_
 rintro e w1 ⟨rfl,h1,g1⟩
 have G1:=M0 g1
 clear h1 g1
 go_wp2_with fail
 refine(HI _).mono ?_
 rintro e w2 ⟨rfl,hb⟩
 have HG2:Hid (w.grownBy w2 (some B)):=M0 (jh G1 hb)
 clear hb
 go_wp2_with fail
 refine(om _ _).mono ?_
 rintro _ w3 ⟨rfl,hu⟩
 obtain rfl:=hu.symm
 exact⟨rfl,rfl,HG2⟩
theorem ad9(B:Nat)(l:List UInt8)(w:fV)(h:iL w B l)(hc:cut l=none):
  f_ Vh 100 #[p_ B,.func (.func 163) #[] #[],.func (.func 164) #[] #[],.int .i64 2] w fun e w'=>e=.panicked (iH 2)/\w.grownBy w' (some B):=by
 have HN:=M0 (Yo B l w h hc)
 clear h hc
 go_enter func100,zA
 go_wp2_with fail
 refine HN.mono ?_
 rintro e w1 ⟨rfl,rfl⟩
 exact⟨rfl,rfl,il _ _⟩
theorem an7(B:Nat)(l:List UInt8)(w:fV)(h:iL w B l)(hs:l.length<=268435456)(ht:l.length<=1024):
  f_ Vh 100 #[p_ B,.func (.func 101) #[] #[],.func (.func 166) #[] #[],.int .i64 7] w fun e w'=>e=.returned (.string ⟨l.toArray⟩)/\iL w' B []/\w.grownBy w' (some B):=by
 have HN:=M0 (vO B l w h (by omega))
 have HI:=M0 (fun u=>X8 ⟨l.toArray⟩ u)
 rw[show decide (((⟨l.toArray⟩:ByteArray).size:Int)<=1024)=true by rw[gL,decide_eq_true_iff];omega]at HI
 clear h hs ht
 go_enter func100,zA
 go_wp2_with fail
 refine HN.mono ?_
 rintro e w1 ⟨rfl,h1,g1⟩
 have H1:=M0 h1
 have G1:=M0 g1
 clear h1 g1
 go_wp2_with fail
 refine(HI _).mono ?_
 rintro e w2 ⟨rfl,rfl⟩
 go_wp2_with fail
 refine(oo _ _).mono ?_
 rintro _ w3 ⟨rfl,hu⟩
 obtain rfl:=hu.symm
 go_wp2
 go_ret
 exact⟨rfl,H1,G1⟩
theorem am4(B:Nat)(l:List UInt8)(w:fV)(h:iL w B l)(hs:l.length<=268435456)(ht:1024<l.length):
  f_ Vh 100 #[p_ B,.func (.func 101) #[] #[],.func (.func 166) #[] #[],.int .i64 7] w fun e w'=>e=.panicked (iH 7)/\w.grownBy w' (some B):=by
 have HN:=M0 (vO B l w h (by omega))
 have HI:=M0 (fun u=>X8 ⟨l.toArray⟩ u)
 rw[show decide (((⟨l.toArray⟩:ByteArray).size:Int)<=1024)=false by rw[gL,dB];omega]at HI
 clear h hs ht
 go_enter func100,zA
 go_wp2_with fail
 refine HN.mono ?_
 rintro e w1 ⟨rfl,h1,g1⟩
 have G1:=M0 g1
 clear h1 g1
 go_wp2_with fail
 refine(HI _).mono ?_
 rintro e w2 ⟨rfl,rfl⟩
 go_wp2_with fail
 refine(om _ _).mono ?_
 rintro _ w3 ⟨rfl,hu⟩
 obtain rfl:=hu.symm
 exact⟨rfl,rfl,G1⟩
end Tf
end Go.Proofs.YtdgacidndknceaaGreatDoor
