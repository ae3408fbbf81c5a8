import Derived.Test.YtbhbbeebncmaiaaGreatDoorMg25
set_option linter.all false
set_option maxHeartbeats 16000000
set_option maxRecDepth 10000
open Go.ChangeShapes Go.WideShapes Go.ChangeAt Go.RowKit
open Go renaming World → fV
open Go.RowKit renaming Below → gm
open Go.Proofs.Tryz renaming prog → Vh
open Go.Value renaming int → Vb
open Go.IntKind renaming u8 → Vd, u16 → Ve, u32 → Vf, i64 → Vg
open Go.Proofs.Tryz
namespace Go.Proofs.YtbhbbeebncmaiaaGreatDoor
namespace Dh
open Bs Rb Wt
open rO (vM pW iF)
open Ip (wG)
theorem Cy(L:List UInt8)(n:Nat):mK ⟨L.toArray⟩ n=⟨(L++List.replicate (n-L.length) 0).toArray⟩:=by
 rw[mK,gL]
 split
 ·rename_i h
  have e3:n-L.length=0:=by omega
  rw[e3];simp
 ·exact vT L _
theorem zh(u:fV)(x y:Int)(g:Nat)(hg:g=u.heap.size):(u.alloc (.cells #[Vb Vd x,Vb Vd y] 5)).cell? (a_ g 0)=some (Vb Vd x)/\(u.alloc (.cells #[Vb Vd x,Vb Vd y] 5)).cell? (a_ g 1)=some (Vb Vd y):=by
 subst hg
 constructor
 ·rw[HY _ u.heap.size 0 _ _ (0,0) (G8 u _)];rfl
 ·rw[HY _ u.heap.size 1 _ _ (0,0) (G8 u _)];rfl
theorem nV(u:fV)(x y:Int)(hx:0<=x/\x<=255)(hy:0<=y/\y<=255):(convert 55 9 (.slice (some (a_ u.heap.size 0)) 2 2)).run Vh (u.alloc (.cells #[Vb Vd x,Vb Vd y] 5))=.ok (.string ⟨#[gJ x,gJ y]⟩) (u.alloc (.cells #[Vb Vd x,Vb Vd y] 5)):=
 wG _ _ x y hx hy (zh u x y _ rfl).1 (zh u x y _ rfl).2
theorem zm(w:fV):Calls Vh 91 #[Vb Vf 0] w fun e w'=>e=.returned (.string ⟨#[0,0,0,0]⟩)/\gm w.heap.size w w':=by
 refine(pW 0 w (by omega) (by omega)).mono ?_
 rintro e w1 ⟨rfl,h⟩
 exact⟨rfl,h⟩
theorem uk(u:fV)(x y:Int)(hx:0<=x/\x<=255)(hy:0<=y/\y<=255):(convert 55 9 (.slice (some (a_ u.heap.size 0)) 2 2)).run Vh (u.alloc (.cells #[Vb Vd x,Vb Vd y] 5)).drew=.ok (.string ⟨#[gJ x,gJ y]⟩) (u.alloc (.cells #[Vb Vd x,Vb Vd y] 5)).drew:=
 wG _ _ x y hx hy (zh u x y _ rfl).1 (zh u x y _ rfl).2
theorem wN(X A:List UInt8)(t z:ByteArray)(hT:t=⟨X.toArray⟩)(hA:X++ [255]=A)(hz:z=⟨(rR A).toArray⟩)(hl:X.length<=1000000000)(u:fV):
  Calls Vh 135 #[.string (t++⟨#[255]⟩),Vb Vg 300] u fun ee w'=>ee=.returned (.string z)/\gm u.heap.size u w':=by
 have e1:t++⟨#[255]⟩=⟨A.toArray⟩:=by rw[hT,<-hA];exact vT X [255]
 have hAl:A.length<=1000000001:=by rw[<-hA,ak,aj,aP];omega
 rw[e1]
 refine(qy ⟨A.toArray⟩ 300 u (by rw[gL];omega) (by omega)).mono ?_
 rintro ee w' ⟨rfl,hb⟩
 exact⟨by rw[Cy,hz,rR],hb⟩
theorem tY(op fl gF cl yo ne:Int)(a b c d e f:UInt8)(p q r:ByteArray)(hp:p=⟨#[gJ op,1,6,0]⟩)(hq:q=⟨(iy fl).toArray⟩)(hr:r=⟨(su cl 4).toArray⟩):
  mK (p++(⟨#[gJ (gF/256/256/256),gJ (gF/256/256),gJ (gF/256),gJ gF]⟩++⟨#[0,0]⟩)++q++r++⟨#[gJ (yo/256/256/256),gJ (yo/256/256),gJ (yo/256),gJ yo]⟩++⟨#[gJ (ne/256/256/256),gJ (ne/256/256),gJ (ne/256),gJ ne]⟩++⟨#[0,0,0,0]⟩++⟨#[a,b,c,d,e,f]⟩) 236++⟨#[99,130,83,99]⟩=⟨(kG op fl gF cl yo ne [a,b,c,d,e,f]).toArray⟩:=by
 have e1:p++(⟨#[gJ (gF/256/256/256),gJ (gF/256/256),gJ (gF/256),gJ gF]⟩++⟨#[0,0]⟩)++q++r++⟨#[gJ (yo/256/256/256),gJ (yo/256/256),gJ (yo/256),gJ yo]⟩++⟨#[gJ (ne/256/256/256),gJ (ne/256/256),gJ (ne/256),gJ ne]⟩++⟨#[0,0,0,0]⟩++⟨#[a,b,c,d,e,f]⟩=⟨(NI op fl gF cl yo ne [a,b,c,d,e,f]).toArray⟩:=by
  rw[hp,hq,hr,NI]
  simp only[iA,bF,List.flatMap_nil,<-vM]
  apply aC
  apply aJ
  simp[aO,su,iy,iY]
  decide
 rw[e1,Cy,xZ]
 rfl
theorem qZ{w u:fV}{cs:Array Value}{t:TypeId}(h:gm (w.alloc (.cells cs t)).heap.size (w.alloc (.cells cs t)) u):∀j,u.cell? (a_ w.heap.size j)=cs[j]?:=fun j=>by
 rw[h.cell (p:=(a_ w.heap.size j)) (by simp),HY _ w.heap.size j cs t (0,0) (G8 w _)]
theorem jQ{W u:fV}{b n:Nat}{cs:Array Value}(h:∀j,W.cell? (a_ b j)=cs[j]?)(hb:b<n)(hB:gm n W u):∀j,u.cell? (a_ b j)=cs[j]?:=fun j=>by
 rw[hB.cell (p:=(a_ b j)) hb];exact h j
theorem kz(rep:Bool)(gF cl yo ne:Int)(a b c d e f:UInt8)(sa:Option Addr)(sc:Nat)(os:gU)(w:fV)(hx:0<=gF/\gF<=4294967295)(hc:0<=cl/\cl<=4294967295)(hy:0<=yo/\yo<=4294967295)(hn:0<=ne/\ne<=4294967295)(hA:At w sa os)(hl:heavy os<=2097152):
  Calls Vh 94 #[.agg (rD rep gF cl yo ne a.toNat b.toNat c.toNat d.toNat e.toNat f.toNat sa os.length sc)] w fun ee w'=>
   ee=.returned (.tuple #[.string (nH rep gF cl yo ne [a,b,c,d,e,f] os),Vb Vg (r_ rep gF cl yo ne [a,b,c,d,e,f] os)])/\gm w.heap.size w w':=by
 have hlen:os.length<=heavy os:=by unfold heavy;omega
 have hh8:=nS os
 obtain⟨hx0,hx1⟩:=hx
 obtain⟨hy0,hy1⟩:=hy
 obtain⟨hn0,hn1⟩:=hn
 obtain⟨hc0,hc1⟩:=hc
 have hqx:IntKind.i64.wrap gF=gF:=wrap_i64 _ (by omega) (by omega)
 have HBX:=gu (uo gF 4 (w.alloc (.cells (rD rep gF cl yo ne a.toNat b.toNat c.toNat d.toNat e.toNat f.toNat sa os.length sc) 127)) hx0 (by omega) (by omega))
 obtain⟨o,ho⟩:∃o:UInt8,o=gJ (TV rep):=⟨_,rfl⟩
 obtain⟨f1,hf1⟩:∃f1:UInt8,f1=(if cl=0 then 128 else 0):=⟨_,rfl⟩
 obtain⟨H,hH⟩:∃H,H=kG (TV rep) (QD cl) gF cl yo ne [a,b,c,d,e,f]:=⟨_,rfl⟩
 have hHl:H.length=240:=by rw[hH];exact jY _ _ _ _ _ _ _ rfl
 have HJ:Hid (mK ((⟨#[o,1,6,0]⟩:ByteArray)++(⟨#[gJ (gF/256/256/256),gJ (gF/256/256),gJ (gF/256),gJ gF]⟩++⟨#[0,0]⟩)++(⟨#[f1,0]⟩:ByteArray)++⟨#[gJ (cl/256/256/256),gJ (cl/256/256),gJ (cl/256),gJ cl]⟩++⟨#[gJ (yo/256/256/256),gJ (yo/256/256),gJ (yo/256),gJ yo]⟩++⟨#[gJ (ne/256/256/256),gJ (ne/256/256),gJ (ne/256),gJ ne]⟩++⟨#[0,0,0,0]⟩++⟨#[a,b,c,d,e,f]⟩) 236++⟨#[99,130,83,99]⟩=⟨H.toArray⟩):=gu (by rw[hH];exact tY _ _ gF cl yo ne a b c d e f _ _ _ (by rw[ho]) (by rw[hf1];unfold QD;split<;>rfl) (by first|rfl|decide))
 have HALL:Hid (H++jb os++ [255]=mr rep gF cl yo ne [a,b,c,d,e,f] os):=gu (by rw[hH,mr])
 have hzs:(mK ((⟨#[o,1,6,0]⟩:ByteArray)++(⟨#[gJ (gF/256/256/256),gJ (gF/256/256),gJ (gF/256),gJ gF]⟩++⟨#[0,0]⟩)++(⟨#[f1,0]⟩:ByteArray)++⟨#[gJ (cl/256/256/256),gJ (cl/256/256),gJ (cl/256),gJ cl]⟩++⟨#[gJ (yo/256/256/256),gJ (yo/256/256),gJ (yo/256),gJ yo]⟩++⟨#[gJ (ne/256/256/256),gJ (ne/256/256),gJ (ne/256),gJ ne]⟩++⟨#[0,0,0,0]⟩++⟨#[a,b,c,d,e,f]⟩) 236).size+4=240:=by
  have q:=aZ ByteArray.size HJ
  rw[aM,gL]at q
  have q2:=q.trans hHl
  exact q2
 have haddZ:=fun u=>Vr (P:=Vh) u (mK ((⟨#[o,1,6,0]⟩:ByteArray)++(⟨#[gJ (gF/256/256/256),gJ (gF/256/256),gJ (gF/256),gJ gF]⟩++⟨#[0,0]⟩)++(⟨#[f1,0]⟩:ByteArray)++⟨#[gJ (cl/256/256/256),gJ (cl/256/256),gJ (cl/256),gJ cl]⟩++⟨#[gJ (yo/256/256/256),gJ (yo/256/256),gJ (yo/256),gJ yo]⟩++⟨#[gJ (ne/256/256/256),gJ (ne/256/256),gJ (ne/256),gJ ne]⟩++⟨#[0,0,0,0]⟩++⟨#[a,b,c,d,e,f]⟩) 236) ⟨#[99,130,83,99]⟩ (by show _+4<=_;omega)
 have HA:=gu hA
 clear hA hH hzs
 go_enter func94,ntmps94
 refine bT (fun K hK=> ?_)
 go_cut [1,2,3] (fun v1 v2 v3 wc=>v1=(p_ w.heap.size)/\v2=.string ⟨#[]⟩/\v3=Vb Vg 0/\wc=w.alloc (.cells (rD rep gF cl yo ne a.toNat b.toNat c.toNat d.toNat e.toNat f.toNat sa os.length sc) 127))
 case first=>go_wp2;go_meet;exact⟨rfl,rfl,rfl,rfl⟩
 obtain⟨rfl,rfl,rfl,rfl⟩:=hcut
 refine hK _ _ ?_
 clear hK K
 refine bT (fun K hK=> ?_)
 go_cut [4] (fun v4 wc=>v4=.string ⟨#[1,1,6,0]⟩/\wc=w.alloc (.cells (rD rep gF cl yo ne a.toNat b.toNat c.toNat d.toNat e.toNat f.toNat sa os.length sc) 127))
 case first=>go_wp2;go_meet;exact⟨rfl,rfl⟩
 obtain⟨rfl,rfl⟩:=hcut
 refine hK _ _ ?_
 clear hK K
 refine bT (fun K hK=> ?_)
 go_cut [4] (fun v4 wc=>v4=.string ⟨#[o,1,6,0]⟩/\wc=w.alloc (.cells (rD rep gF cl yo ne a.toNat b.toNat c.toNat d.toNat e.toNat f.toNat sa os.length sc) 127))
 case first=>cases rep<;>(go_wp2;go_meet;exact⟨by rw[ho];rfl,rfl⟩)
 obtain⟨rfl,rfl⟩:=hcut
 refine hK _ _ ?_
 clear hK K ho
 refine bT (fun K hK=> ?_)
 go_cut [4] (fun v4 wc=>v4=.string (⟨#[o,1,6,0]⟩++(⟨#[gJ (gF/256/256/256),gJ (gF/256/256),gJ (gF/256),gJ gF]⟩++⟨#[0,0]⟩))/\Hid (gm (w.alloc (.cells (rD rep gF cl yo ne a.toNat b.toNat c.toNat d.toNat e.toNat f.toNat sa os.length sc) 127)).heap.size (w.alloc (.cells (rD rep gF cl yo ne a.toNat b.toNat c.toNat d.toNat e.toNat f.toNat sa os.length sc) 127)) wc))
 case first=>
  go_wp2_with fail
  refine HBX.mono ?_
  rintro ee w1 ⟨rfl,hb1⟩
  simp only[su,bY,cu]
  go_wp2
  go_meet
  exact⟨rfl,gu hb1⟩
 obtain⟨rfl,HB1⟩:=hcut
 rename fV=>W1
 refine hK _ _ ?_
 clear hK K HBX
 have hcW:=qZ HB1
 have hzW:w.heap.size+1<=W1.heap.size:=by have:=HB1.size;simpa using this
 have HW1:Hid (gm w.heap.size w W1):=gu (((R9 _ _).alloc (ai _) _).trans (HB1.mono (by simp)))
 clear HB1
 have HCW:=gu hcW
 refine bT (fun K hK=> ?_)
 go_cut [4] (fun v4 wc=>v4=.string (⟨#[o,1,6,0]⟩++(⟨#[gJ (gF/256/256/256),gJ (gF/256/256),gJ (gF/256),gJ gF]⟩++⟨#[0,0]⟩)++⟨#[f1,0]⟩)/\W1=wc)
 case first=>
  by_cases hz:cl=0
  ·have hzz:(cl==0)=true:=by simpa using hz
   go_wp2
   go_meet
   exact⟨by rw[hf1,ay hz],rfl⟩
  ·have hzz:(cl==0)=false:=by simpa using hz
   go_wp2
   go_meet
   exact⟨by rw[hf1,ax hz],rfl⟩
 obtain⟨rfl,rfl⟩:=hcut
 refine hK _ _ ?_
 clear hK K hf1
 have HHZ:=gu (show((⟨#[o,1,6,0]⟩:ByteArray)++(⟨#[gJ (gF/256/256/256),gJ (gF/256/256),gJ (gF/256),gJ gF]⟩++⟨#[0,0]⟩)++(⟨#[f1,0]⟩:ByteArray)++⟨#[gJ (cl/256/256/256),gJ (cl/256/256),gJ (cl/256),gJ cl]⟩++⟨#[gJ (yo/256/256/256),gJ (yo/256/256),gJ (yo/256),gJ yo]⟩++⟨#[gJ (ne/256/256/256),gJ (ne/256/256),gJ (ne/256),gJ ne]⟩++⟨#[0,0,0,0]⟩++⟨#[a,b,c,d,e,f]⟩).size<=1099511627776 by show 34<=_;omega)
 have hB1:gm W1.heap.size W1 W1:=R9 _ _
 have hcc1:=hcW
 clear hcW
 go_wp2
 go_cut [4] (fun s4 wc=>s4=.string ⟨H.toArray⟩/\Hid (gm W1.heap.size W1 wc))
 case first=>
  go_region_held3 (fun u=>u.cell? (a_ w.heap.size 2)=some (Vb Vf cl)/\u.cell? (a_ w.heap.size 3)=some (Vb Vf yo)/\u.cell? (a_ w.heap.size 4)=some (Vb Vf ne)/\u.cell? (a_ w.heap.size 5)=some (Vb Vd a.toNat)/\u.cell? (a_ w.heap.size 6)=some (Vb Vd b.toNat)/\u.cell? (a_ w.heap.size 7)=some (Vb Vd c.toNat)/\u.cell? (a_ w.heap.size 8)=some (Vb Vd d.toNat)/\u.cell? (a_ w.heap.size 9)=some (Vb Vd e.toNat)/\u.cell? (a_ w.heap.size 10)=some (Vb Vd f.toNat)) (go_keep)
   (first|(go_at_call 91;refine(zm _).mono ?_;rintro ee u1 ⟨rfl,hb1⟩;have hB1:gm W1.heap.size W1 u1:=(by first|exact hB1.trans (hb1.mono hB1.size)|exact hB1.drew.trans (hb1.mono hB1.size));have hcc1:=jQ HCW (by omega) hB1;have hzz1:=hB1.size;clear hb1)|(go_at_call 91;refine(pW _ _ (by omega) (by omega)).mono ?_;rintro ee u1 ⟨rfl,hb1⟩;have hB1:gm W1.heap.size W1 u1:=(by first|exact hB1.trans (hb1.mono hB1.size)|exact hB1.drew.trans (hb1.mono hB1.size));have hcc1:=jQ HCW (by omega) hB1;have hzz1:=hB1.size;clear hb1)|(go_at_call 132;refine(uy _ _ _ _ _ _ _).mono ?_;rintro ee u1 ⟨rfl,hb1⟩;have hB1:gm W1.heap.size W1 u1:=(by first|exact hB1.trans (hb1.mono hB1.size)|exact hB1.drew.trans (hb1.mono hB1.size));have hcc1:=jQ HCW (by omega) hB1;have hzz1:=hB1.size;clear hb1)|(go_at_call 135;refine(qy _ 236 _ HHZ (by omega)).mono ?_;rintro ee u1 ⟨rfl,hb1⟩;have hB1:gm W1.heap.size W1 u1:=(by first|exact hB1.trans (hb1.mono hB1.size)|exact hB1.drew.trans (hb1.mono hB1.size));have hcc1:=jQ HCW (by omega) hB1;have hzz1:=hB1.size;clear hb1))
  go_wp2
  go_meet
  exact⟨aZ Value.string HJ,gu hB1⟩
 case rest=>
  obtain⟨rfl,HBC⟩:=hcut
  rename fV=>wc
  clear hB1 hcc1
  have c11:wc.cell? (a_ w.heap.size 11)=some (.slice sa os.length sc):=by
   rw[HBC.cell (p:=(a_ w.heap.size 11)) (by show w.heap.size<_;omega),HCW 11];rfl
  have HBW:Hid (gm w.heap.size w wc):=gu (HW1.trans (HBC.mono (by omega)))
  clear HBC HCW HHZ HJ HW1 haddZ
  go_wp2
  clear c11
  go_loopw [4,48] (fun s4 i wr=>∃k:Nat,k<=os.length/\i=Vb Vg k/\s4=.string ⟨(H++jb (os.take k)).toArray⟩/\Hid (bad (os.take k)=false)/\Hid (gm w.heap.size w wr)) (fun _ i _=>os.length-(intOf i).toNat)
  case atStart=>exact⟨0,aN _,rfl,by simp[jb],gu rfl,HBW⟩
  case round=>
   obtain⟨k,hk,rfl,rfl,HBD,HW⟩:=hrel
   rename fV=>wr
   have hkl:=qh os k
   obtain⟨X,hX⟩:∃X,H++jb (os.take k)=X:=⟨_,rfl⟩
   have hXl:X.length<=4195776:=by rw[<-hX,ak];omega
   by_cases hlt:k<os.length
   ·obtain⟨ad,rfl,c0,c1⟩:=HA.below HW (ai _) k hlt
    obtain⟨oc,od,hcd⟩:∃x y,os[k]=(x,y):=⟨_,_,rfl⟩
    rw[hcd]at c0 c1
    simp only at c0 c1
    have hd:od.length<=2097152:=by have:=oD os k hlt;rw[hcd]at this;simp only at this;omega
    have hbadk:=tK hlt HBD
    have hbat:= @z_ os k hlt
    rw[hcd]at hbadk hbat
    have HT:=gu (oN os k hlt)
    rw[hcd]at HT
    rw[hX]
    have HX:=gu hX
    have hc8:=oc.toNat_lt
    clear hcd hX
    by_cases hb:sj oc=true
    ·have hbd:=hbat hb
     have HE1:Hid (r_ rep gF cl yo ne [a,b,c,d,e,f] os=2):=gu (by rw[r_,ay hbd])
     have HE2:Hid (nH rep gF cl yo ne [a,b,c,d,e,f] os=⟨#[]⟩):=gu (by rw[nH,ay hbd])
     have hbb:oc.toNat=0∨oc.toNat=52∨oc.toNat=255:=by simpa[sj,or_assoc]using hb
     clear hb hbat hbadk hbd
     rcases hbb with e0|e0|e0
     all_goals
      rw[e0]at c0
      clear e0
      go_wp2
      go_ret2
      exact⟨by rw[gB HE1,gB HE2];rfl,HW.alloc HW.size _⟩
    ·have HB2:=gu (hbadk (by simpa using hb))
     have hbb: ¬oc.toNat=0/\ ¬oc.toNat=52/\ ¬oc.toNat=255:=by simpa[sj,and_assoc]using hb
     obtain⟨g0,g1,g2⟩:=hbb
     have q0:(((oc.toNat:Nat):Int)==0)=false:=by simp;omega
     have q1:(((oc.toNat:Nat):Int)==52)=false:=by simp;omega
     have q2:(((oc.toNat:Nat):Int)==255)=false:=by simp;omega
     clear hb hbat hbadk g0 g1 g2
     obtain⟨Wi,hWi⟩:∃Wi,Wi=wr.alloc (.cells #[Vb Vd oc.toNat,.string ⟨od.toArray⟩] 151):=⟨_,rfl⟩
     have hoc:∀wi,gm (wr.heap.size+1) Wi wi->wi.cell? (a_ wr.heap.size 0)=some (Vb Vd oc.toNat):=fun wi hbi=>by
      rw[hbi.cell (p:=(a_ wr.heap.size 0)) (by show wr.heap.size<_;omega),hWi,HY _ wr.heap.size 0 _ _ (0,0) (G8 wr _)];rfl
     have HOC:=gu hoc
     have HWI:Hid (gm w.heap.size w Wi/\Wi.heap.size=wr.heap.size+1):=gu (by rw[hWi];exact⟨HW.alloc HW.size _,by simp⟩)
     have HWW:=gu hWi
     clear hoc hWi
     go_wp2
     rw[<-gB HWW]
     clear HWW c0 c1 q0 q1 q2
     go_loopg [4,7] od.length (fun g s4 s7 wi=>∃m done:List UInt8,m.length=g/\g<=od.length/\s7=.string ⟨m.toArray⟩/\s4=.string ⟨(X++done).toArray⟩/\Hid (done++qc oc m=qc oc od)/\Hid (done.length<=2*(od.length-g))/\Hid (gm (wr.heap.size+1) Wi wi))
     case atStart=>exact⟨od,[],rfl,ai _,rfl,by simp,gu rfl,gu (by simp),gu (R9 _ _)⟩
     case round=>
      obtain⟨m,done,hm,hg,rfl,rfl,H2,H3,H4⟩:=hrel
      rename fV=>wi
      have o0:=HOC _ H4
      have hgl:=gB H3
      obtain⟨s,hS⟩:∃s:ByteArray,s=⟨m.toArray⟩:=⟨_,rfl⟩
      have hz':s.size=m.length:=by rw[hS];exact gL m
      obtain⟨t,hT⟩:∃t:ByteArray,t=⟨(X++done).toArray⟩:=⟨_,rfl⟩
      have ht':t.size<=8390080:=by rw[hT,gL,ak];omega
      by_cases hlt2:255<m.length
      ·have hgt:(255:Int)<(s.size:Int):=by omega
       have hs1:s.size<=9223372036854775807:=by omega
       have hez:(s.extract 0 255).size=255:=by rw[aX];omega
       have hcv1:=nV wi oc.toNat 255 (by omega) (by omega)
       have hcv2:=uk wi oc.toNat 255 (by omega) (by omega)
       have had1:=fun u=>Vr (P:=Vh) u ⟨#[gJ (oc.toNat:Int),gJ 255]⟩ (s.extract 0 255) (by show 2+_<=_;omega)
       have had2:=fun u=>Vr (P:=Vh) u t (⟨#[gJ (oc.toNat:Int),gJ 255]⟩++s.extract 0 255) (by rw[aM];show _+(2+_)<=_;omega)
       have HD:Hid (s.extract 255 s.size=⟨(m.drop 255).toArray⟩):=gu (by rw[hS];exact jT m 255)
       have HE:Hid (t++(⟨#[gJ (oc.toNat:Int),gJ 255]⟩++s.extract 0 255)=⟨(X++(done++(oc::255::m.take 255))).toArray⟩):=gu (by
        rw[hT,hS,iX,oh]
        apply aC
        apply aJ
        simp[aO]
        decide)
       have HG:=gu hm
       have HLT:=gu hlt2
       rw[<-hS,<-hT]
       clear hS hT hz' ht' hm hgl hlt2 hez
       go_wp2
       go_region
       all_goals go_wp2
       all_goals go_roundg (gk-255)
       all_goals first
        |(have:=gB HG;have:=gB HLT;omega)
        |(refine⟨m.drop 255,done++(oc::255::m.take 255),by have:=gB HG;rw[aW];omega,by omega,aZ Value.string HD,aZ Value.string HE,gu ?_,gu ?_,gu (by first|exact(H4.alloc (by have q:=H4.size;rw[HWI.2]at q;exact q) _).drew|exact H4.drew.alloc (by have q:=H4.size;rw[HWI.2]at q;exact q) _)⟩
          ·rw[<-gB H2,ny oc m HLT];simp
          ·have:=gB H3
           have:=gB HG
           have:=gB HLT
           rw[ak,aj,aj,aT]
           omega)
      ·have hgt: ¬(255:Int)<(s.size:Int):=by omega
       have hqs:IntKind.u8.wrap (s.size:Int)=(s.size:Int):=by rw[IntKind.wrap_u8];omega
       have hcv1:=nV wi oc.toNat s.size (by omega) (by omega)
       have had1:=fun u=>Vr (P:=Vh) u ⟨#[gJ (oc.toNat:Int),gJ (s.size:Int)]⟩ s (by show 2+_<=_;omega)
       have had2:=fun u=>Vr (P:=Vh) u t (⟨#[gJ (oc.toNat:Int),gJ (s.size:Int)]⟩++s) (by rw[aM];show _+(2+_)<=_;omega)
       have HE:Hid (t++(⟨#[gJ (oc.toNat:Int),gJ (s.size:Int)]⟩++s)=⟨(H++jb (os.take (k+1))).toArray⟩):=gu (by
        rw[gB HT,<-bg,gB HX,<-gB H2,mq oc m hlt2,hz',hT,hS,oh,wH]
        apply aC
        apply aJ
        simp[aO])
       rw[<-hS,<-hT]
       clear hS hT hz' ht' hm hgl hlt2
       go_wp2
       go_roundw
       case rel=>exact⟨k+1,by omega,by go_num,aZ Value.string HE,HB2,gu (HWI.1.trans ((H4.alloc (by have q:=H4.size;rw[HWI.2]at q;exact q) _).mono (by have:=HW.size;omega)))⟩
       case measure=>simp[intOf];omega
   ·have e0:k=os.length:=by omega
    subst e0
    rw[aS]at hX hkl
    have hnb:=gB HBD
    rw[aS]at hnb ⊢
    have hX255:X++ [255]=mr rep gF cl yo ne [a,b,c,d,e,f] os:=by rw[<-hX];exact HALL
    obtain⟨t,hT⟩:∃t:ByteArray,t=⟨X.toArray⟩:=⟨_,rfl⟩
    have ht':t.size=X.length:=by rw[hT];exact gL X
    have had1:=fun u=>Vr (P:=Vh) u t ⟨#[255]⟩ (by show _+1<=_;omega)
    obtain⟨z,hZ⟩:∃z:ByteArray,z=⟨(rR (mr rep gF cl yo ne [a,b,c,d,e,f] os)).toArray⟩:=⟨_,rfl⟩
    have HZC:Hid (∀u,Calls Vh 135 #[.string (t++⟨#[255]⟩),Vb Vg 300] u fun ee w'=>ee=.returned (.string z)/\gm u.heap.size u w'):=gu (fun u=>wN X _ t z hT hX255 hZ (by omega) u)
    have hzl:(1472<z.size)=(1472<(mr rep gF cl yo ne [a,b,c,d,e,f] os).length):=by rw[hZ,gL,lN]
    have HZ:=gu hZ
    rw[hX,<-hT]
    by_cases hbig:1472<(mr rep gF cl yo ne [a,b,c,d,e,f] os).length
    ·have hzz2:1472<z.size:=by rw[hzl];exact hbig
     have hgt:(1472:Int)<(z.size:Int):=by omega
     have HE1:Hid (r_ rep gF cl yo ne [a,b,c,d,e,f] os=7):=gu (by rw[r_,hnb,ax (by decide),ay hbig])
     have HE2:Hid (nH rep gF cl yo ne [a,b,c,d,e,f] os=⟨#[]⟩):=gu (by rw[nH,hnb,ax (by decide),ay hbig])
     clear hX hT hZ hzl hbig hX255 hzz2 ht' hnb
     go_wp2_with fail
     refine(HZC _).mono ?_
     rintro ee w9 ⟨rfl,hb9⟩
     have HB9:=gu hb9
     clear hb9
     go_wp2
     go_ret2
     exact⟨by rw[gB HE1,gB HE2];rfl,HW.trans (HB9.mono HW.size)⟩
    ·have hzz2: ¬1472<z.size:=by rw[hzl];exact hbig
     have hgt: ¬(1472:Int)<(z.size:Int):=by omega
     have HE1:Hid (r_ rep gF cl yo ne [a,b,c,d,e,f] os=0):=gu (by rw[r_,hnb,ax (by decide),ax hbig])
     have HE2:Hid (nH rep gF cl yo ne [a,b,c,d,e,f] os=z):=gu (by rw[nH,hnb,ax (by decide),ax hbig,hZ])
     clear hX hT hZ hzl hbig hX255 hzz2 ht' hnb
     go_wp2_with fail
     refine(HZC _).mono ?_
     rintro ee w9 ⟨rfl,hb9⟩
     have HB9:=gu hb9
     clear hb9
     go_wp2
     go_ret2
     exact⟨by rw[gB HE1,gB HE2];rfl,HW.trans (HB9.mono HW.size)⟩
end Dh
end Go.Proofs.YtbhbbeebncmaiaaGreatDoor
