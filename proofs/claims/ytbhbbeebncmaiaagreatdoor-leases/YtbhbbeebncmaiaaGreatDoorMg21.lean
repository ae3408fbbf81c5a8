import Derived.Test.YtbhbbeebncmaiaaGreatDoorMg43
import Derived.Deep.RegionWith
set_option linter.all false
set_option maxHeartbeats 4000000
set_option maxRecDepth 100000
open Go.ChangeShapes Go.WideShapes Go.ChangeAt Go.RowKit
open Go renaming World → fV, Calls → f_
open Go.RowKit renaming Below → gm
open Go.Proofs.Tryz renaming prog → Vh
open Go.Value renaming int → Vb
open Go.IntKind renaming u8 → Vd, u16 → Ve, u32 → Vf, i64 → Vg
open Go.Proofs.Tryz
namespace Go.Proofs.YtbhbbeebncmaiaaGreatDoor
namespace Ht
open Hb
def DJ(a b:List Int):Nat->Bool
 |0=>false
 |k+1=>if a.getD k 0=b.getD k 0 then DJ a b k else decide (b.getD k 0<a.getD k 0)
def xE(a b:List Int):Bool:=DJ a b (max a.length b.length)
theorem BN(a:List Int)(k:Nat)(h:a.length<=k):a.getD k 0=0:=by simp[aR,List.getElem?_eq_none h]
theorem Rv(a b:List Int)(k:Nat)(h:a.getD k 0=b.getD k 0):DJ a b (k+1)=DJ a b k:=by rw[DJ,ay h]
theorem QI(a b:List Int)(k:Nat)(h: ¬a.getD k 0=b.getD k 0):DJ a b (k+1)=decide (b.getD k 0<a.getD k 0):=by rw[DJ,ax h]
theorem F3{a b:Bool}(h:a=b):Ending.returned (.bool a)=.returned (.bool b):=by rw[h]
theorem Lg(ga gb ca cb:Nat)(a b:List Int)(w:fV)(hA:Row w ga a)(hB:Row w gb b)(hla:a.length<=64)(hlb:b.length<=64):
  f_ Vh 29 #[.slice (some (a_ ga 0)) a.length ca,.slice (some (a_ gb 0)) b.length cb] w fun e w'=>
   e=.returned (.bool (xE a b))/\w'=w:=by
 have HA:=gu hA
 have HB:=gu hB
 obtain⟨M,hM⟩:∃M,M=max a.length b.length:=⟨_,rfl⟩
 have hM1:a.length<=M:=by omega
 have hM2:b.length<=M:=by omega
 have hM3:M<=64:=by omega
 have HG:Hid (xE a b=DJ a b M):=gu (by rw[hM];rfl)
 have hM4:M<=a.length∨M<=b.length:=by omega
 have H4:=gu hM4
 clear hA hB hM hM4
 go_enter func29,ntmps29
 go_wp2
 all_goals
  go_loop [5] (fun vk=>∃m:Nat,m<=M/\vk=Vb Vg ((m:Int)-1)/\Hid (DJ a b m=xE a b)) (fun vk=>(intOf vk+1).toNat)
  case atStart=>
   have h4:=gB H4
   refine⟨M,ai _,?_,gu HG.symm⟩
   congr 1
   rcases h4 with h4|h4<;>omega
  case round=>
   obtain⟨m,hm,rfl,HM⟩:=hrel
   cases m with
   |zero=>
    go_wp2
    go_ret
    exact⟨F3 HM,rfl⟩
   |succ n=>
    have e:((n+1:Nat):Int)-1=(n:Int):=by omega
    rw[e]
    have q1:=BN a n
    have q2:=BN b n
    have hgo:=gu (Rv a b n)
    have hno:=gu (QI a b n)
    have hca:=fun h=>HA.cell n h
    have hcb:=fun h=>HB.cell n h
    obtain⟨x,hx⟩:∃x,x=a.getD n 0:=⟨_,rfl⟩
    obtain⟨y,hy⟩:∃y,y=b.getD n 0:=⟨_,rfl⟩
    rw[<-hx]at q1 hgo hno hca
    rw[<-hy]at q2 hgo hno hcb
    clear hx hy e
    by_cases hxy:x=y
    ·have HG1:=gu ((hgo hxy).symm.trans HM)
     have hb1:(x !=y)=false:=by simp[hxy]
     clear hgo hno hxy
     by_cases ha:n<a.length
     all_goals by_cases hb:n<b.length
     all_goals first|(have q3:=hca ha;clear hca)|(have q3:x=0:=q1 (by omega);subst q3;clear hca)
     all_goals first|(have q4:=hcb hb;clear hcb)|(have q4:y=0:=q2 (by omega);subst q4;clear hcb)
     all_goals clear q1 q2
     all_goals go_wp2
     all_goals exact⟨⟨n,by omega,rfl,HG1⟩,by simp[intOf]⟩
    ·have HG1:=gu ((hno hxy).symm.trans HM)
     have hb1:(x !=y)=true:=by simpa using hxy
     clear hgo hno hxy
     by_cases ha:n<a.length
     all_goals by_cases hb:n<b.length
     all_goals first|(have q3:=hca ha;clear hca)|(have q3:x=0:=q1 (by omega);subst q3;clear hca)
     all_goals first|(have q4:=hcb hb;clear hcb)|(have q4:y=0:=q2 (by omega);subst q4;clear hcb)
     all_goals clear q1 q2
     all_goals first|(exfalso;simp at hb1;done)|skip
     all_goals go_wp2
     all_goals go_ret
     all_goals exact⟨F3 HG1,rfl⟩
def pM(x:Int):List Int:=[x%65536,x/65536%65536,x/65536/65536]
def zR(d:List Int):Nat->List Int
 |0=>d
 |k+1=>xz (zR d k) d
def tJ(p:Int)(power:Nat):List Int:=List.replicate (2*power) 0++ [p]
def MQ(p:Int)(power:Nat)(bit r:Int):Int:=if xE (zR (pM (r+bit)) (power-1)) (tJ p power)then r else r+bit
def CK(p:Int)(power:Nat):Nat->Int->Int
 |0,r=>r
 |m+1,r=>CK p power m (MQ p power (2 ^ m) r)
def mU(p:Int)(power:Nat):Int:=CK p power 37 0%4294967296
theorem P6(i:Nat)(x:Int)(b O:List Int)(M:Int)(hx0:0<=x)(hx1:x<=65535)(hb:In 65535 b)(hO:In M O)(hM0:65535<=M)(hM1:M<=16777216)(j:Nat):
  In M (m_ i x b O j).1/\0<=(m_ i x b O j).2/\(m_ i x b O j).2<=70000:=by
 induction j with
 |zero=>exact⟨hO,by simp[m_],by simp[m_]⟩
 |succ j ih=>
  obtain⟨h1,h2,h3⟩:=ih
  have p0:0<=x*b.getD j 0:=Int.mul_nonneg hx0 (hb j).1
  have p1:x*b.getD j 0<=65535*b.getD j 0:=Int.mul_le_mul_of_nonneg_right hx1 (hb j).1
  have p2:=(hb j).2
  have q:=h1 (i+j)
  simp only[m_]
  refine⟨h1.set _ _ ?_ ?_,?_,?_⟩<;>omega
theorem NP(a b:List Int)(ha:In 65535 a)(hb:In 65535 b)(i:Nat)(hi:i<=16):In (65535+70000*i) (rZ a b i):=by
 induction i with
 |zero=>
  intro j
  have:(rZ a b 0).getD j 0=0:=by
   simp only[rZ,aR,dM]
   split<;>rfl
  rw[this];omega
 |succ i ih=>
  have h:=P6 i (a.getD i 0) b (rZ a b i) (65535+70000*i) (ha i).1 (ha i).2 hb (ih (by omega)) (by omega) (by omega) b.length
  have q:=h.1 (i+b.length)
  simp only[rZ]
  refine In.set (h.1.mono (by omega)) _ _ ?_ ?_<;>omega
theorem La(a b:List Int)(ha:In 65535 a)(hb:In 65535 b)(hl:a.length<=16):In 16777216 (xz a b):=
 (NP a b ha hb a.length hl).mono (by omega)
theorem Iq(a b:List Int):(xz a b).length=a.length+b.length:=EY a b _
theorem Jd(x:Int)(h0:0<=x)(h1:x<=281474976710655):In 65535 (pM x):=by
 intro j
 match j with
 |0=>simp[pM];omega
 |1=>simp[pM];omega
 |2=>simp[pM];omega
 |j+3=>simp[pM]
theorem Ed(x:Int):(pM x).length=3:=rfl
theorem JN(w:fV)(n:Nat)(h:n<=100):∃w1,(Instr.makeSlice 40 (Vb Vg (n:Int)) (Vb Vg ((n:Int)+1))).run Vh w=.ok (.slice (some (a_ w.heap.size 0)) n (n+1)) w1/\
  Row w1 w.heap.size (List.replicate (n+1) 0)/\gm w.heap.size w w1:=by
 obtain⟨i0,hi,hz0,hz1,hz2⟩:=Vx zK
 have h:=run_make (P:=Vh) w 40 3 i0 (Vb Vg 0) underlying40 hi hz0 .i64 .i64 (n:Int) ((n:Int)+1) (by omega) (by omega) (by rw[hz2];omega) (by omega)
 have e:((n:Int)+1).toNat=n+1:=by omega
 have e':((n:Int)).toNat=n:=by omega
 rw[e,e',hz1,Nat.mul_one]at h
 exact⟨_,h,Row.of (FZ w (n+1)),(R9 _ _).alloc (ai _) _⟩
theorem LW(p:Int)(power:Nat):(List.replicate (2*power+1) (0:Int)).set (2*power) p=tJ p power:=by
 apply List.ext_getElem
 ·simp[tJ]
 ·intro k h1 h2
  simp only[tJ,fJ,eH,List.getElem_replicate,bJ]
  by_cases h:2*power=k
  ·subst h;simp
  ·rw[ax h,dif_pos (by simp at h1;omega)]
theorem LC(p:Int)(power:Nat):(tJ p power).length=2*power+1:=by simp[tJ]
theorem J4(w w1:fV)(p:Int)(power:Nat)(hR:Row w1 w.heap.size (List.replicate (2*power+1) 0))(hb:gm w.heap.size w w1):
  Row ((w1.alloc (.cells #[Vb Vg p] 3)).setCells w.heap.size (2*power) [Vb Vg p]) w.heap.size (tJ p power)/\
  gm w.heap.size w ((w1.alloc (.cells #[Vb Vg p] 3)).setCells w.heap.size (2*power) [Vb Vg p]):=by
 have hlt:=hR.lt
 have hR2:Row (w1.alloc (.cells #[Vb Vg p] 3)) w.heap.size (List.replicate (2*power+1) 0):=hR.below ((R9 _ _).alloc (ai _) _) hlt
 have h:=hR2.set (2*power) p (by simp)
 rw[LW]at h
 have e:(w1.alloc (.cells #[Vb Vg p] 3)).setCells w.heap.size (2*power) [Vb Vg p]=(w1.alloc (.cells #[Vb Vg p] 3)).setCell (a_ w.heap.size (2*power)) (Vb Vg p):=by
  simp[World.setCells]
 rw[e]
 exact⟨h,((hb.alloc (aK hlt) _)).setCell (ai _) _⟩
theorem MO(x:Int)(j:Nat):(zR (pM x) j).length=3*(j+1):=by
 induction j with
 |zero=>rfl
 |succ j ih=>rw[zR,Iq,ih,Ed];omega
theorem Po(x:Int)(h0:0<=x)(h1:x<=281474976710655)(j:Nat)(hj:j<=1):In 16777216 (zR (pM x) j):=by
 have hd:=Jd x h0 h1
 match j,hj with
 |0,_=>exact hd.mono (by omega)
 |1,_=>exact La (pM x) (pM x) hd hd (by rw[Ed];omega)
theorem L_(ga gb ca cb la lb:Nat)(a b:List Int)(w:fV)(hA:Row w ga a)(hB:Row w gb b)(ea:a.length=la)(eb:b.length=lb)(hla:la<=16)(hlb:lb<=16)(ha:In 16777216 a)(hb:In 16777216 b):
  f_ Vh 28 #[.slice (some (a_ ga 0)) la ca,.slice (some (a_ gb 0)) lb cb] w fun e w'=>
   e=.returned (.slice (some (a_ w.heap.size 0)) (la+lb) (la+lb))/\Row w' w.heap.size (xz a b)/\gm w.heap.size w w':=by
 subst ea eb
 exact KV ga gb ca cb a b w hA hB hla hlb ha hb
theorem MW(ga gb ca cb la lb:Nat)(a b:List Int)(w:fV)(hA:Row w ga a)(hB:Row w gb b)(ea:a.length=la)(eb:b.length=lb)(hla:la<=64)(hlb:lb<=64):
  f_ Vh 29 #[.slice (some (a_ ga 0)) la ca,.slice (some (a_ gb 0)) lb cb] w fun e w'=>
   e=.returned (.bool (xE a b))/\w'=w:=by
 subst ea eb
 exact Lg ga gb ca cb a b w hA hB hla hlb
theorem Nv(n:Nat):(2:Int) ^ (n+1)/2=2 ^ n:=by rw[Int.pow_succ];omega
theorem LZ(n:Nat)(h:n<=36):(2:Int) ^ n<=68719476736:=by
 have h1:(2:Nat) ^ n<=2 ^ 36:=Nat.pow_le_pow_right (by omega) h
 have h2:(((2:Nat) ^ n:Nat):Int)<=((2 ^ 36:Nat):Int):=Int.ofNat_le.mpr h1
 rw[Int.natCast_pow]at h2
 simpa using h2
theorem Nh(n:Nat):(0:Int)<2 ^ n:=Int.pow_pos (by omega)
theorem PZ(w:fV)(x:Int):Row (w.alloc (.cells (rH (x%65536) (x/65536%65536) (x/65536/65536)) 3)) w.heap.size (pM x):=
 Row.of (G8 w _)
theorem EO(p:Int)(power:Nat)(w:fV)(hp0:0<=p)(hp1:p<=65535)(hpw0:2<=power)(hpw1:power<=3):
  f_ Vh 13 #[Vb Vg p,Vb Vg power] w fun e w'=>
   e=.returned (Vb Vg (mU p power))/\gm w.heap.size w w':=by
 obtain⟨i0,hi,hz0,hz1,hz2⟩:=Vx zK
 obtain⟨w1,hmk,hR1,hb1⟩:=JN w (2*power) (by omega)
 obtain⟨hR3,hb3⟩:=J4 w w1 p power hR1 hb1
 have hc1:=fun j (hj:j<2*power+1)=>(hR1.below ((R9 _ _).alloc (ai _) (.cells #[Vb Vg p] 3)) hR1.lt).cell j (by simpa using hj)
 have hf1:=fun j=>(hR1.below ((R9 _ _).alloc (ai _) (.cells #[Vb Vg p] 3)) hR1.lt).free j
 have HC1:=gu hc1
 have HF1:=gu hf1
 clear hc1 hf1
 have hcast:((2*power:Nat):Int)=2*(power:Int):=by omega
 rw[hcast]at hmk
 have HR3:=gu hR3
 clear hR1 hb1 hR3
 go_enter func13,ntmps13
 go_wp2_with (at_builtin;refine wpList_append_arg _ rfl (.tmp 18) (.tmp 20) 40 rfl 3 i0 (Vb Vg 0) 1 8 underlying40 hi hz0 hz1 hz2 rfl (by decide) w.heap.size 0 (2*power) (2*power+1) (c64 (List.replicate (2*power) 0)) rfl ?c1 ?c2 (a_ w1.heap.size 0) 1 1 [Vb Vg p] rfl rfl ?c3 ?c4 ?c5 ?c6 ?c7 (fun _=> ?_) (fun h=>absurd h (by omega)))
 case c1=>simp[c64]
 case c2=>
  intro j u hj
  have hl:j<2*power:=by have:=(List.getElem?_eq_some_iff.mp hj).1;simpa[c64]using this
  have h:=HC1 j (by omega)
  rw[fB,h]
  simp only[c64,fC,dM,ay hl,Option.map_some,bB]at hj
  rw[<-hj]
  simp[aR,dM]
  split<;>rfl
 case c3=>
  intro j u hj
  match j,hj with
  |0,hj=>
   have e:u=Vb Vg p:=by simpa using hj.symm
   subst e
   exact HY _ _ _ _ _ _ (G8 w1 _)
 case c4=>intro u hu;simp at hu;subst hu;rfl
 case c5=>
  intro _ j hj
  have e:j=0:=by simpa using hj
  subst e
  have h:=HC1 (2*power) (by omega)
  have h':=HF1 (2*power)
  simp only[fB,Nat.mul_one,Nat.add_zero]
  rw[h,h']
  exact⟨rfl,rfl⟩
 case c6=>simp only[maxLen];omega
 case c7=>omega
 go_loopw [6,7] (fun vr vb wr=>∃(m:Nat) (r:Int),m<=37/\0<=r/\r+2 ^ m<=137438953472/\vr=Vb Vg r/\vb=Vb Vg (2 ^ m/2)/\CK p power m r=CK p power 37 0/\Row wr w.heap.size (tJ p power)/\gm w.heap.size w wr) (fun _ vb _=>(intOf vb).toNat)
 case atStart=>exact⟨37,0,by omega,by omega,by decide,rfl,by rfl,rfl,HR3,hb3⟩
 case round=>
  obtain⟨m,r,hm,hr0,hr1,rfl,rfl,hroot,hG,hbel⟩:=hrel
  rename fV=>wr
  cases m with
  |zero=>
   have e:(2:Int) ^ 0/2=0:=by decide
   rw[e]
   have hr2:r<=137438953472:=by
    have:(2:Int) ^ 0=1:=by decide
    omega
   have HROOT:=gu hroot
   clear hroot hr1
   go_wp2
   go_ret
   refine⟨nM ?_,hbel⟩
   rw[mU,<-gB HROOT];rfl
  |succ n=>
   rw[Nv]
   have hB0:=Nh n
   have hB1:=LZ n (by omega)
   have hr2:r+2 ^ n+2 ^ n<=137438953472:=by rw[Int.pow_succ]at hr1;omega
   have hst:CK p power n (MQ p power (2 ^ n) r)=CK p power 37 0:=hroot
   have hgb:w.heap.size<wr.heap.size:=hG.lt
   have HST:=gu hst
   clear hst hroot hr1
   obtain⟨B,hB⟩:∃B,B=(2:Int) ^ n:=⟨_,rfl⟩
   rw[<-hB]at hB0 hB1 hr2 ⊢
   have HB:=gu hB
   clear hB
   obtain⟨x,hx⟩:∃x,x=r+B:=⟨_,rfl⟩
   have hx0:0<=x:=by omega
   have hx1:x<=281474976710655:=by omega
   have hdr:=PZ wr x
   have HD:=gu hdr
   have HGD:=gu (hG.below ((R9 _ _).alloc (ai _) (.cells (rH (x%65536) (x/65536%65536) (x/65536/65536)) 3)) hgb)
   have HBD:=gu (hbel.alloc (aK hgb) (.cells (rH (x%65536) (x/65536%65536) (x/65536/65536)) 3))
   clear hdr
   have hx':x<=137438953472:=by omega
   subst hx
   go_wp2
   go_loopw [10,11] (fun vn vk wq=>∃(k g L:Nat),1<=k/\k<=power/\L=3*k/\vk=Vb Vg k/\vn=.slice (some (a_ g 0)) L L/\Row wq g (zR (pM (r+B)) (k-1))/\Row wq wr.heap.size (pM (r+B))/\Row wq w.heap.size (tJ p power)/\gm w.heap.size w wq) (fun _ vk _=>power-(intOf vk).toNat)
   case atStart=>exact⟨1,wr.heap.size,3,by omega,by omega,rfl,rfl,rfl,HD,HD,HGD,HBD⟩
   case round=>
    clear hG hbel HD HGD HBD
    obtain⟨k,g,L,hk0,hk1,hL,rfl,rfl,hN,hD,hG,hbel⟩:=hrel
    rename fV=>wq
    have hlg:=hN.lt
    have hld:=hD.lt
    have hlG:=hG.lt
    have hL2:=MO (r+B) (k-1)
    have hL3:L=3*(k-1+1):=by omega
    by_cases hkp:k<power
    ·have HT:=L_ g wr.heap.size L 3 L 3 (zR (pM (r+B)) (k-1)) (pM (r+B)) wq hN hD (by rw[hL3];exact hL2) rfl (by omega) (by omega) (Po _ hx0 hx1 _ (by omega)) ((Jd _ hx0 hx1).mono (by omega))
     have epow:xz (zR (pM (r+B)) (k-1)) (pM (r+B))=zR (pM (r+B)) (k+1-1):=by
      obtain⟨j,rfl⟩:∃j,k=j+1:=⟨k-1,by omega⟩
      rfl
     rw[epow]at HT
     have HT':=gu HT
     have hLa:L<=3*k:=by omega
     have hLb:3*k<=L:=by omega
     clear HT epow hL2 hL hL3
     go_wp2_with (go_at_call 28;refine HT'.mono ?_;rintro e w' ⟨rfl,hN',hb'⟩)
     rename fV=>w5
     rename_i hb5
     refine⟨⟨k+1,wq.heap.size,L+3,by omega,by omega,by omega,by go_num,rfl,by assumption,?_,?_,?_⟩,by simp[intOf];omega⟩
     ·exact hD.below (by assumption) hld
     ·exact hG.below (by assumption) hlG
     ·exact hbel.trans ((by assumption:gm wq.heap.size wq _).mono (by omega))
    ·have e:k=power:=by omega
     subst e
     have HT:=MW g w.heap.size L (2*k+1) L (2*k+1) (zR (pM (r+B)) (k-1)) (tJ p k) wq hN hG (by rw[hL3];exact hL2) (LC p k) (by omega) (by omega)
     obtain⟨t,ht⟩:∃t,t=xE (zR (pM (r+B)) (k-1)) (tJ p k):=⟨_,rfl⟩
     rw[<-ht]at HT
     have HT':=gu HT
     have hstep:MQ p k B r=if t then r else r+B:=by rw[ht];rfl
     have HSTEP:=gu hstep
     clear ht hstep HT hL2 hL hL3
     cases t
     ·go_wp2_with (go_at_call 29;refine HT'.mono ?_;rintro e w' ⟨rfl,rfl⟩)
      have hB:=gB HB
      have hs:=gB HST
      rw[<-hB,gB HSTEP]at hs
      refine⟨⟨n,r+B,by omega,by omega,by rw[<-hB];omega,rfl,by rw[<-hB],hs,hG,hbel⟩,by simp only[intOf];omega⟩
     ·go_wp2_with (go_at_call 29;refine HT'.mono ?_;rintro e w' ⟨rfl,rfl⟩)
      have hB:=gB HB
      have hs:=gB HST
      rw[<-hB,gB HSTEP]at hs
      refine⟨⟨n,r,by omega,by omega,by rw[<-hB];omega,rfl,by rw[<-hB],hs,hG,hbel⟩,by simp only[intOf];omega⟩
def E_(p:Int)(L:List Int):Nat->Bool
 |0=>true
 |j+1=>E_ p L j && (p%L.getD j 0 !=0)
def iI:Nat->List Int
 |0=> []
 |k+1=>if E_ ((k:Int)+2) (iI k) (iI k).length then iI k++ [(k:Int)+2]else iI k
theorem Cj(k:Nat):∀j,j<(iI k).length->2<=(iI k).getD j 0/\(iI k).getD j 0<=(k:Int)+1:=by
 induction k with
 |zero=>intro j hj;simp[iI]at hj
 |succ k ih=>
  intro j hj
  rw[iI]at hj ⊢
  split at hj
  ·rename_i h
   rw[ay h]
   by_cases e:j<(iI k).length
   ·have:=ih j e
    have e2:(iI k++ [(k:Int)+2]).getD j 0=(iI k).getD j 0:=by simp[aR,dn e]
    rw[e2]
    omega
   ·have e':j=(iI k).length:=by simp at hj;omega
    subst e'
    simp
    omega
  ·rename_i h
   rw[ax h]
   have:=ih j hj
   omega
theorem Fv(k m:Nat):(iI k).length<=(iI (k+m)).length:=by
 induction m with
 |zero=>exact ai _
 |succ m ih=>
  refine aG ih ?_
  rw[<-Nat.add_assoc,iI]
  split<;>simp
theorem Kn:(iI 309).length=63:=by kernel_rfl
theorem ll:(iI 310).length=64:=by kernel_rfl
theorem JY(k:Nat)(h:k<310):(iI k).length<64:=by
 have:=Fv k (309-k)
 rw[show k+(309-k)=309 by omega,Kn]at this
 omega
theorem Jz{w:fV}{base:Nat}{v:Value}{L:List Int}(h:w.ownsRow base 3 1 v L.length (c64 L))(hne:0<L.length):∃g cap,v=.slice (some (a_ g 0)) L.length cap/\base<=g/\Row w g L:=by
 obtain⟨_,h|⟨g,cap,cur,h1,h2,h3,h4,h5,h6,h7⟩⟩:=h
 ·omega
 ·exact⟨g,cap,h1,h2,cur,h3,by rw[<-h7,Nat.mul_one]⟩
theorem wV{w:fV}{base:Nat}{v:Value}{L:List Int}(h:w.ownsRow base 3 1 v L.length (c64 L)):∃ao cap,v=.slice ao L.length cap:=by
 obtain⟨_,⟨h1,h2⟩|⟨g,cap,cur,h1,h2,h3,h4,h5,h6,h7⟩⟩:=h
 ·rw[h2];exact⟨_,_,h1⟩
 ·exact⟨_,_,h1⟩
theorem Gn(w:fV):
  f_ Vh 12 #[Vb Vg 64] w fun e w'=>
   ∃v,e=.returned v/\w'.ownsRow w.heap.size 3 1 v (iI 310).length (c64 (iI 310))/\gm w.heap.size w w':=by
 obtain⟨i0,hi,hz0,hz1,hz2⟩:=Vx zK
 go_enter func12,ntmps12
 go_wp2
 go_loopw [3,4] (fun vo vp wr=>∃k:Nat,k<=310/\vp=Vb Vg ((k:Int)+2)/\wr.ownsRow w.heap.size 3 1 vo (iI k).length (c64 (iI k))/\gm w.heap.size w wr) (fun _ vp _=>400-(intOf vp).toNat)
 case atStart=>exact⟨0,by omega,rfl,Vp _ _ _ _,R9 _ _⟩
 case round=>
  obtain⟨k,hk,rfl,hO,hbel⟩:=hrel
  rename fV=>wr
  rename Value=>vo
  obtain⟨ao,cp,hv⟩:=wV hO
  by_cases hk3:k<310
  ·have hlen:=JY k hk3
   have hbd:=Cj k
   have hrow:=fun h=>Jz hO h
   have hnx:iI (k+1)=if E_ ((k:Int)+2) (iI k) (iI k).length then iI k++ [(k:Int)+2]else iI k:=rfl
   have HBD:=gu hbd
   have HO:=gu hO
   have HROW:=gu hrow
   have HNX:=gu hnx
   obtain⟨L,hL⟩:∃L,L=iI k:=⟨_,rfl⟩
   rw[<-hL]at hlen hv HBD HO HROW HNX
   obtain⟨n,hn⟩:∃n,n=L.length:=⟨_,rfl⟩
   rw[<-hn]at hlen hv
   have HN:=gu hn
   subst hv
   clear hL hO hrow hnx hbd hn
   go_wp2
   go_loop [5,16] (fun vb vj=>∃j:Nat,j<=n/\vj=Vb Vg j/\vb=.bool (E_ ((k:Int)+2) L j)) (fun _ vj=>n-(intOf vj).toNat)
   case atStart=>exact⟨0,aN _,rfl,rfl⟩
   case round=>
    obtain⟨j,hj,rfl,rfl⟩:=hrel
    by_cases hjn:j<n
    ·have hn0:0<L.length:=by rw[<-gB HN];omega
     obtain⟨g,cap,he,hg,hR⟩:=HROW hn0
     rw[<-gB HN]at he
     injection he with he1 he2 he3
     subst he1
     have hc:=hR.cell j (by rw[<-gB HN];exact hjn)
     have hq:=HBD j (by rw[<-gB HN];exact hjn)
     have hnx:E_ ((k:Int)+2) L (j+1)=(E_ ((k:Int)+2) L j && (((k:Int)+2)%L.getD j 0 !=0)):=rfl
     obtain⟨q,hqe⟩:∃q,q=L.getD j 0:=⟨_,rfl⟩
     rw[<-hqe]at hc hq hnx
     obtain⟨hq0,hq1⟩:=hq
     have HNX2:=gu hnx
     obtain⟨t,ht⟩:∃t,t=E_ ((k:Int)+2) L j:=⟨_,rfl⟩
     rw[<-ht]at HNX2 ⊢
     clear hqe hnx ht hn0 hR he2 he3
     cases t
     all_goals go_wp2
     all_goals exact⟨⟨j+1,by omega,by go_num,by rw[gB HNX2];rfl⟩,by simp[intOf];omega⟩
    ·have e:j=n:=by omega
     subst e
     obtain⟨t,ht⟩:∃t,t=E_ ((k:Int)+2) L j:=⟨_,rfl⟩
     have hnx:=gB HNX
     rw[<-gB HN]at hnx
     rw[<-ht]at hnx ⊢
     have HNX2:=gu hnx
     clear HNX hnx ht
     cases t
     ·go_wp2
      have e:=HNX2.trans (ax (by simp))
      exact⟨⟨k+1,by omega,by go_num,by rw[e];exact gB HO,hbel⟩,by simp[intOf];omega⟩
     ·go_wp2_with (at_builtin;refine Vv _ rfl (.tmp 29) (.tmp 31) 40 rfl w.heap.size 3 i0 (Vb Vg 0) 1 8 underlying40 hi hz0 hz1 hz2 rfl (by decide) _ _ _ rfl (HO.alloc _) (a_ wr.heap.size 0) 1 1 (c64 [(k:Int)+2]) rfl rfl ?c1 ?c2 ?h63 ?hby ?hba ?_)
      case c1=>intro j u hj;exact hj
      case c2=>intro u hu;simp[c64]at hu;subst hu;rfl
      case h63=>rw[<-gB HN];simp only[maxLen];omega
      case hby=>rw[<-gB HN];omega
      case hba=>have:=hbel.size;omega
      ·intro v' w5 hown hgr hne
       have hnew:iI (k+1)=L++ [(k:Int)+2]:=HNX2.trans (ay (by simp))
       have HN5:=gu hnew
       have HB5:=gu ((hbel.alloc hbel.size (.cells #[Vb Vg ((k:Int)+2)] 3)).grown hgr (by have:=hbel.size;simp;omega) (fun q hq=>(World.ownsRow.lt HO q hq).1))
       have HO5:=gu hown
       clear hown hgr hne hnew hbel
       go_wp2
       refine⟨⟨k+1,by omega,by go_num,?_,HB5⟩,by simp[intOf];omega⟩
       rw[gB HN5,c64,bP,ak]
       exact HO5
  ·have e:k=310:=by omega
   subst e
   rw[ll]at hv
   have HO:=gu hO
   have hvv:=hv
   clear hO
   subst hv
   go_wp2
   go_ret
   exact⟨_,rfl,HO,hbel⟩
theorem mR{P:Program}{ops:Array Oper}{o:Oper}{a:Act}{w:fV}{K:Act->fV->Prop}{Q:Exit->Act->fV->Prop}{E:Prop}
  (hg:o.guard=none) (s x:Operand) (t:TypeId) (hop:o.op=Op.call {callee:=Callee.builtin Builtin.append,args:=#[s,x],argTypes:=#[t,t]})
  (base:Nat) (e:TypeId) (i:TypeInfo) (z:Value) (size bytes:Nat) (h1:P.underlying t=some (.slice e)) (h2:P.info? e=some i) (h3:i.zero=some z) (h4:i.size=size) (h5:i.bytes=bytes) (h6:z.cells.size=size) (h7:0<size)
  (v:Value) (n:Nat) (xs:List Value) (hs:a.eval s=v) (hown:w.ownsRow base e size v n xs)
  (ad:Addr) (m c:Nat) (news:List Value) (hx:a.eval x=.slice (some ad) m c) (hn:news.length=m*size) (hc:∀j u,news[j]?=some u->w.cell? (ad.add j)=some u) (h1c:∀u ∈ news,u.oneCell'=true)
  (b1:n+m<=maxLen) (b2:(n+m)*bytes<=140737488355328) (b3:base<=w.heap.size)
  (hK:∀v' w',w'.ownsRow base e size v' (n+m) (xs++news)->w.grownBy w' v.ownBlock->(v'.ownBlock=v.ownBlock∨v'.ownBlock=some w.heap.size)->K (a.put o.dst v') w'):
  if Region.wanted o (yielded ops a.tmps)=true then Oper.wp P o a w K Q else E:=by
 have hw:Region.wanted o (yielded ops a.tmps)=true:=by simp[Region.wanted,hg]
 rw[ay hw]
 obtain⟨v',w',hr,r1,r2,_,r4⟩:=run_append_own_at (P:=P) w base t o.type e i z size bytes h1 h2 h3 h4 h5 h6 h7 v n xs hown ad m c news hn hc h1c b1 b2 b3
 unfold Oper.wp
 simp[execOp,hop,resolve,invoke,builtin,hs,hx,hr,Result.andThen]
 exact hK v' w' r1 r2 r4
structure Tb (w:fV) (B gp:Nat) (vH vK:Value) (hs ks:List Int):Prop where
 box:w.heap[B]?=some (.cells #[vH,vK] 42 (0,0))
 oH:w.ownsRow (B+1) 3 1 vH hs.length (c64 hs)
 oK:w.ownsRow (B+1) 3 1 vK ks.length (c64 ks)
 apart:∀g,vH.ownBlock=some g->vK.ownBlock≠some g
 pH:vH.ownBlock≠some gp
 pK:vK.ownBlock≠some gp
 row:Row w gp (iI 310)
 TJ:B<gp
theorem ownsRow_below{w w':fV}{base:Nat}{e:TypeId}{size:Nat}{v:Value}{n:Nat}{xs:List Value}(h:w.ownsRow base e size v n xs)(hb:gm w.heap.size w w'):w'.ownsRow base e size v n xs:=
 h.kept (row:=none) ⟨hb.os,hb.tape,hb.output,hb.size,fun k hk _=>hb.block k hk⟩ (by cases v.ownBlock<;>simp)
theorem Tb.later{w w':fV}{B gp:Nat}{vH vK:Value}{hs ks:List Int}(h:Tb w B gp vH vK hs ks)(hb:gm w.heap.size w w'):Tb w' B gp vH vK hs ks:=
 ⟨(hb.block B (Vj h.box)).trans h.box,ownsRow_below h.oH hb,ownsRow_below h.oK hb,h.apart,h.pH,h.pK,h.row.below hb h.row.lt,h.TJ⟩
theorem Tb.alloc{w:fV}{B gp:Nat}{vH vK:Value}{hs ks:List Int}(h:Tb w B gp vH vK hs ks)(o:Obj):Tb (w.alloc o) B gp vH vK hs ks:=
 h.later ((R9 _ _).alloc (ai _) o)
theorem Mm{w:fV}{B:Nat}{a b c:Value}{t:TypeId}(h:w.heap[B]?=some (.cells #[a,b] t (0,0))):(w.setCell (a_ B 1) c).heap[B]?=some (.cells #[a,c] t (0,0)):=by
 have hlt:=Vj h
 have h':w.heap[B]=.cells #[a,b] t (0,0):=by simpa[aY hlt]using h
 show(w.heap.modify B _)[B]?=_
 rw[aY (by simpa using hlt),dI,h']
 rfl
theorem ML{w:fV}{B:Nat}{a b c:Value}{t:TypeId}(h:w.heap[B]?=some (.cells #[a,b] t (0,0))):(w.setCell (a_ B 0) c).heap[B]?=some (.cells #[c,b] t (0,0)):=by
 have hlt:=Vj h
 have h':w.heap[B]=.cells #[a,b] t (0,0):=by simpa[aY hlt]using h
 show(w.heap.modify B _)[B]?=_
 rw[aY (by simpa using hlt),dI,h']
 rfl
theorem xR{w:fV}{base:Nat}{e:TypeId}{size:Nat}{v:Value}{n:Nat}{xs:List Value}(h:w.ownsRow base e size v n xs)(g:Nat)(hg:v.ownBlock=some g):base<=g/\g<w.heap.size:=h.lt g hg
theorem yZ{w:fV}{B o:Nat}{e:TypeId}{size:Nat}{v u:Value}{n:Nat}{xs:List Value}(h:w.ownsRow (B+1) e size v n xs):(w.setCell (a_ B o) u).ownsRow (B+1) e size v n xs:=
 VC h (Nat.lt_succ_self _) u
theorem Tb.Ta{w w2:fV}{B gp:Nat}{vH vK:Value}{hs ks:List Int}(h:Tb w B gp vH vK hs ks)(hg:w.grownBy w2 vK.ownBlock):w2.heap[B]?=some (.cells #[vH,vK] 42 (0,0)):=
 (hg.block B (Vj h.box) (fun e=>by have:=(xR h.oK B e.symm).1;omega)).trans h.box
theorem Tb.RZ{w w2:fV}{B gp:Nat}{vH vK:Value}{hs ks:List Int}(h:Tb w B gp vH vK hs ks)(hg:w.grownBy w2 vH.ownBlock):w2.heap[B]?=some (.cells #[vH,vK] 42 (0,0)):=
 (hg.block B (Vj h.box) (fun e=>by have:=(xR h.oH B e.symm).1;omega)).trans h.box
theorem CF{w w2:fV}{g:Nat}{L:List Int}{row:Option Nat}(h:Row w g L)(hg:w.grownBy w2 row)(hne:some g≠row):Row w2 g L:=by
 obtain⟨cur,h1,h2⟩:=h
 exact⟨cur,(hg.block g (Vj h1) hne).trans h1,h2⟩
theorem wY{w:fV}{g B o:Nat}{L:List Int}{u:Value}(h:Row w g L)(hne:g≠B):Row (w.setCell (a_ B o) u) g L:=by
 obtain⟨cur,h1,h2⟩:=h
 exact⟨cur,(R8 w (a_ B o) u g hne).trans h1,h2⟩
theorem Tb.Sn{w w2:fV}{B gp:Nat}{vH vK v':Value}{hs ks:List Int}{x:Int}(h:Tb w B gp vH vK hs ks)(hg:w.grownBy w2 vK.ownBlock)
  (ho:w2.ownsRow (B+1) 3 1 v' (ks.length+1) (c64 ks++c64 [x])) (hv:v'.ownBlock=vK.ownBlock∨v'.ownBlock=some w.heap.size):Tb (w2.setCell (a_ B 1) v') B gp vH v' hs (ks++ [x]):=by
 have e:c64 (ks++ [x])=c64 ks++c64 [x]:=by simp[c64]
 have e':(ks++ [x]).length=ks.length+1:=by simp
 have hgp:=h.row.lt
 have hgB:=h.TJ
 refine⟨Mm (h.Ta hg),yZ (h.oH.kept hg ?_),yZ (by rw[e,e'];exact ho),?_,h.pH,?_,wY (CF h.row hg (fun e=>h.pK e.symm)) (by omega),h.TJ⟩
 ·cases hh:vH.ownBlock with
  |none=>exact .inl rfl
  |some g=>exact .inr (fun e=>h.apart g hh e.symm)
 ·intro g hg1 hg2
  rcases hv with hv|hv
  ·exact h.apart g hg1 (hv.symm.trans hg2)
  ·have:=(xR h.oH g hg1).2
   rw[hv]at hg2
   injection hg2 with hg2
   omega
 ·intro hg2
  rcases hv with hv|hv
  ·exact h.pK (hv.symm.trans hg2)
  ·rw[hv]at hg2
   injection hg2 with hg2
   omega
theorem Tb.Tu{w w2:fV}{B gp:Nat}{vH vK v':Value}{hs ks:List Int}{x:Int}(h:Tb w B gp vH vK hs ks)(hg:w.grownBy w2 vH.ownBlock)
  (ho:w2.ownsRow (B+1) 3 1 v' (hs.length+1) (c64 hs++c64 [x])) (hv:v'.ownBlock=vH.ownBlock∨v'.ownBlock=some w.heap.size):Tb (w2.setCell (a_ B 0) v') B gp v' vK (hs++ [x]) ks:=by
 have e:c64 (hs++ [x])=c64 hs++c64 [x]:=by simp[c64]
 have e':(hs++ [x]).length=hs.length+1:=by simp
 have hgp:=h.row.lt
 have hgB:=h.TJ
 refine⟨ML (h.RZ hg),yZ (by rw[e,e'];exact ho),yZ (h.oK.kept hg ?_),?_,?_,h.pK,wY (CF h.row hg (fun e=>h.pH e.symm)) (by omega),h.TJ⟩
 ·cases hh:vK.ownBlock with
  |none=>exact .inl rfl
  |some g=>exact .inr (fun e=>h.apart g e.symm hh)
 ·intro g hg1 hg2
  rcases hv with hv|hv
  ·exact h.apart g (hv.symm.trans hg1) hg2
  ·have:=(xR h.oK g hg2).2
   rw[hv]at hg1
   injection hg1 with hg1
   omega
 ·intro hg2
  rcases hv with hv|hv
  ·exact h.pH (hv.symm.trans hg2)
  ·rw[hv]at hg2
   injection hg2 with hg2
   omega
def Jq(k:Nat):List Int:=((iI 310).take k).map (fun p=>mU p 3)
def D6(k:Nat):List Int:=(((iI 310).take 8).take k).map (fun p=>mU p 2)
theorem Cu(L:List Int)(k:Nat)(h:k<L.length):L.take (k+1)=L.take k++ [L.getD k 0]:=by
 rw[aL h];simp[aR,h]
theorem M4(k:Nat)(h:k<64):Jq (k+1)=Jq k++ [mU ((iI 310).getD k 0) 3]:=by
 rw[Jq,Cu _ _ (by rw[ll];exact h),bP];rfl
theorem MM(k:Nat)(h:k<8):D6 (k+1)=D6 k++ [mU ((iI 310).getD k 0) 2]:=by
 have hl:=ll
 rw[D6,Cu _ _ (by simp;omega),bP]
 have e:((iI 310).take 8).getD k 0=(iI 310).getD k 0:=by simp[aR,h]
 rw[e];rfl
theorem M3(k:Nat)(h:8<=k):D6 (k+1)=D6 k:=by
 have hl:=ll
 have e:∀m,8<=m->((iI 310).take 8).take m=(iI 310).take 8:=fun m hm=>bG (by simp;omega)
 rw[D6,D6,e _ h,e _ (by omega)]
theorem OT(k:Nat)(h:k<=64):(Jq k).length=k:=by
 have hl:=ll
 simp[Jq];omega
theorem KE(w:fV):
  f_ Vh 12 #[Vb Vg 64] w fun e w'=>
   ∃g cap,e=.returned (.slice (some (a_ g 0)) 64 cap)/\w.heap.size<=g/\Row w' g (iI 310)/\gm w.heap.size w w':=by
 refine(Gn w).mono ?_
 rintro e w1 ⟨v,rfl,ho,hb⟩
 obtain⟨g,cap,hv,hg,hR⟩:=Jz ho (by rw[ll];decide)
 rw[ll]at hv
 exact⟨g,cap,by rw[hv],hg,hR,hb⟩
theorem QP(p:Int)(w:fV)(hp0:0<=p)(hp1:p<=65535):
  f_ Vh 13 #[Vb Vg p,Vb Vg 3] w fun e w'=>e=.returned (Vb Vg (mU p 3))/\gm w.heap.size w w':=
 EO p 3 w hp0 hp1 (by decide) (by decide)
theorem QR(p:Int)(w:fV)(hp0:0<=p)(hp1:p<=65535):
  f_ Vh 13 #[Vb Vg p,Vb Vg 2] w fun e w'=>e=.returned (Vb Vg (mU p 2))/\gm w.heap.size w w':=
 EO p 2 w hp0 hp1 (by decide) (by decide)
theorem kZ{w:fV}{base:Nat}{e:TypeId}{size:Nat}{v:Value}{n:Nat}{xs:List Value}(h:w.ownsRow base e size v n xs):∃ao m cap,v=.slice ao m cap:=by
 obtain⟨_,⟨h1,h2⟩|⟨g,cap,cur,h1,_⟩⟩:=h
 ·exact⟨_,_,_,h1⟩
 ·exact⟨_,_,_,h1⟩
theorem Tb.cells{w:fV}{B gp:Nat}{vH vK:Value}{hs ks:List Int}(h:Tb w B gp vH vK hs ks):
  w.cell? (a_ B 0)=some vH/\w.cell? (a_ B 1)=some vK:=⟨HY w B 0 _ _ _ h.box,HY w B 1 _ _ _ h.box⟩
theorem wR{w:fV}{B:Nat}{a b:Value}{t:TypeId}(h:w.heap[B]?=some (.cells #[a,b] t (0,0)))(o:Nat):w.frozen? (a_ B o)=false:=by simp[World.frozen?,h]
theorem Cw{w:fV}{B:Nat}{a b:Value}{t:TypeId}(h:w.heap[B]?=some (.cells #[a,b] t (0,0))):w.cell? (a_ B 0)=some a/\w.cell? (a_ B 1)=some b:=⟨HY w B 0 _ _ _ h,HY w B 1 _ _ _ h⟩
theorem mf(w:fV)(x:Int):∀j u,(c64 [x])[j]?=some u->(w.alloc (.cells #[Vb Vg x] 3)).cell? (((a_ w.heap.size 0):Addr).add j)=some u:=by
 intro j u hj
 match j,hj with
 |0,hj=>
  have e:u=Vb Vg x:=by simpa[c64]using hj.symm
  subst e
  exact HY _ _ _ _ _ _ (G8 w _)
theorem Jk(x:Int):∀u ∈ c64 [x],u.oneCell'=true:=by intro u hu;simp[c64]at hu;subst hu;rfl
theorem Ox(k:Nat)(h:k<8):(D6 k).length=k:=by
 have hl:=ll
 simp[D6];omega
theorem vV(w:fV)(o:Obj)(B:Nat)(h:B<w.heap.size):B+1<=(w.alloc o).heap.size/\B<=(w.alloc o).heap.size:=by
 have e:(w.alloc o).heap.size=w.heap.size+1:=by simp
 rw[e]
 omega
theorem MS(w w1:fV)(gp:Nat)(h0:(w.alloc (.cells #[.slice none 0 0,.slice none 0 0] 42)).heap[w.heap.size]?=some (.cells #[.slice none 0 0,.slice none 0 0] 42 (0,0)))
  (hg:w.heap.size+1<=gp) (hR:Row w1 gp (iI 310)) (hb:gm (w.heap.size+1) (w.alloc (.cells #[.slice none 0 0,.slice none 0 0] 42)) w1):Tb w1 w.heap.size gp (.slice none 0 0) (.slice none 0 0) (D6 0) (Jq 0):=
 ⟨(hb.block _ (Nat.lt_succ_self _)).trans h0,Vp _ _ _ _,Vp _ _ _ _,(fun g h=>by simp[Value.ownBlock]at h),by simp[Value.ownBlock],by simp[Value.ownBlock],hR,by omega⟩
attribute [local irreducible] iI D6 Jq mU
theorem Jo(w:fV):
  f_ Vh 8 #[] w fun e w'=>
   ∃gp vH vK,e=.returned (p_ w.heap.size)/\Tb w' w.heap.size gp vH vK (D6 64) (Jq 64)/\gm w.heap.size w w':=by
 obtain⟨i0,hi,hz0,hz1,hz2⟩:=Vx zK
 obtain⟨B,hB⟩:∃B,B=w.heap.size:=⟨_,rfl⟩
 have HBE:=gu hB
 have h0:(w.alloc (.cells #[.slice none 0 0,.slice none 0 0] 42)).heap[w.heap.size]?=some (.cells #[.slice none 0 0,.slice none 0 0] 42 (0,0)):=G8 w _
 have H0:=gu h0
 clear h0 hB
 go_enter func8,ntmps8
 go_wp2_with (go_at_call 12;refine(KE _).mono ?_;rintro e w1 ⟨gp,cap,rfl,hg,hR,hb⟩)
 have hsz:(w.alloc (.cells #[.slice none 0 0,.slice none 0 0] 42)).heap.size=w.heap.size+1:=by simp
 rw[hsz]at hg hb
 have hT0:=MS w w1 gp H0 hg hR hb
 have hB0:gm w.heap.size w w1:=((R9 _ _).alloc (ai _) _).trans (hb.mono (dN _))
 have HT0:=gu hT0
 have HB0:=gu hB0
 rw[<-gB HBE]at HT0 HB0 ⊢
 clear hT0 hB0 hg hR hb hsz
 go_loopg [8] 64 (fun g s8 wr=>∃(k:Nat) (vH vK:Value),k<=64/\g=64-k/\s8=Vb Vg k/\Tb wr B gp vH vK (D6 k) (Jq k)/\gm B w wr)
 case atStart=>exact⟨0,_,_,by omega,by omega,rfl,HT0,HB0⟩
 case round=>
  obtain⟨k,vH,vK,hk,hgk,rfl,hT,hbel⟩:=hrel
  rename fV=>wr
  by_cases hk6:k<64
  ·have hcp:=hT.row.cell k (by rw[ll];exact hk6)
   have hpb:=Cj 310 k (by rw[ll];exact hk6)
   have hkn:=M4 k hk6
   have hhn:=MM k
   have hhs:=M3 k
   obtain⟨p,hp⟩:∃p,p=(iI 310).getD k 0:=⟨_,rfl⟩
   rw[<-hp]at hcp hpb hkn hhn
   obtain⟨hp0,hp1⟩:=hpb
   have hp0':0<=p:=by omega
   have hp1':p<=65535:=by omega
   obtain⟨ao,m,cp,hvK⟩:=kZ hT.oK
   obtain⟨c0,c1⟩:=hT.cells
   have HT:=gu hT
   have HKN:=gu hkn
   have HHN:=gu hhn
   have HHS:=gu hhs
   have hkl:=OT k hk
   have HKL:=gu hkl
   have HL5:Hid ((Jq k).length+1<=maxLen/\((Jq k).length+1)*8<=140737488355328):=gu (by rw[hkl];simp only[maxLen];omega)
   have hBs:B<wr.heap.size:=Vj hT.box
   have HBEL:=gu hbel
   clear hp hkn hhn hhs hT hkl hbel
   subst hvK
   go_wp2
   go_cut [8]from 8 to 37 (fun s8 wx=>s8=Vb Vg k/\∃vK',Tb wx B gp vH vK' (D6 k) (Jq (k+1))/\gm B w wx)
   case first=>
    go_region_law (first
     |(fail_if_success (refine mR rfl (.tmp 17) (.tmp 20) 40 rfl ?_ ?_ ?_ ?_ ?_ ?_ ?_ ?_ ?_ ?_ ?_ ?_ ?_ ?_ ?_ ?_ ?_ ?_ ?_ ?_ ?_ ?_ ?_ ?_ ?_ ?_ ?_ ?_ ?_ ?_)
       go_simp
       go_wp2_with (go_at_call 13;refine(QP p _ hp0' hp1').mono ?_;rintro e w5 ⟨rfl,hb5⟩;have hT5:=HT.later (((R9 _ _).drew).trans hb5);have hB5:=HBEL.trans ((((R9 _ _).drew).trans hb5).mono (aK hBs));have c5:=hT5.cells.2;have f5:=wR hT5.box 1;have c5a:=(hT5.alloc (.cells #[Vb Vg (mU p 3)] 3)).cells.2))
     |(refine mR rfl (.tmp 17) (.tmp 20) 40 rfl (B+1) 3 i0 (Vb Vg 0) 1 8 underlying40 hi hz0 hz1 hz2 rfl (by decide) (.slice ao m cp) (Jq k).length (c64 (Jq k)) ?_ ?_ (a_ w5.heap.size 0) 1 1 (c64 [mU p 3]) ?_ rfl ?_ (Jk _) ?_ ?_ ?_ ?_
       ·first|rfl|simp[Act.eval]
       ·exact(hT5.oK).alloc _
       ·first|rfl|simp[Act.eval]
       ·exact mf _ _
       ·exact HL5.1
       ·exact HL5.2
       ·exact(vV _ _ _ (Vj hT5.box)).1
       intro v' w6 hown hgr hat
       obtain⟨ao',m',cp',hv'⟩:=kZ hown
       have hm:=(hT5.alloc (.cells #[Vb Vg (mU p 3)] 3)).Ta hgr
       have c6:=(Cw hm).2
       have f6:=wR hm 1
       have PU:=gu ((hT5.alloc (.cells #[Vb Vg (mU p 3)] 3)).Sn hgr hown hat)
       have BL:=gu ((hB5.alloc (aK (Vj hT5.box)) (.cells #[Vb Vg (mU p 3)] 3)).grown hgr (vV _ _ _ (Vj hT5.box)).2 (fun q hq=>Nat.le_of_succ_le (xR hT5.oK q hq).1))
       subst hv'
       clear hown hgr hat hm))
    all_goals go_wp2
    all_goals go_meet
    all_goals exact⟨rfl,_,by rw[gB HKN];exact gB PU,BL.setCell (ai _) _⟩
   case rest=>
    obtain⟨rfl,vK',hT',hB'⟩:=hcut
    clear c0 c1 HT HBEL hcp hBs
    by_cases hk8:k<8
    ·obtain⟨ao2,m2,cp2,hvH⟩:=kZ hT'.oH
     obtain⟨c0,c1⟩:=hT'.cells
     have HT2:=gu hT'
     have hBs2:B<wc.heap.size:=Vj hT'.box
     have HBEL2:=gu hB'
     have hhl:=Ox k hk8
     have HL6:Hid ((D6 k).length+1<=maxLen/\((D6 k).length+1)*8<=140737488355328):=gu (by rw[hhl];simp only[maxLen];omega)
     clear hT' hB' hhl
     subst hvH
     go_wp2
     go_region_law (first
      |(fail_if_success (refine mR rfl (.tmp 30) (.tmp 33) 40 rfl ?_ ?_ ?_ ?_ ?_ ?_ ?_ ?_ ?_ ?_ ?_ ?_ ?_ ?_ ?_ ?_ ?_ ?_ ?_ ?_ ?_ ?_ ?_ ?_ ?_ ?_ ?_ ?_ ?_ ?_)
        go_simp
        go_wp2_with (go_at_call 13;refine(QR p _ hp0' hp1').mono ?_;rintro e w5 ⟨rfl,hb5⟩;have hT5:=HT2.later (((R9 _ _).drew).trans hb5);have hB5:=HBEL2.trans ((((R9 _ _).drew).trans hb5).mono (aK hBs2));have c5:=hT5.cells.1;have f5:=wR hT5.box 0;have c5a:=(hT5.alloc (.cells #[Vb Vg (mU p 2)] 3)).cells.1))
      |(refine mR rfl (.tmp 30) (.tmp 33) 40 rfl (B+1) 3 i0 (Vb Vg 0) 1 8 underlying40 hi hz0 hz1 hz2 rfl (by decide) (.slice ao2 m2 cp2) (D6 k).length (c64 (D6 k)) ?_ ?_ (a_ w5.heap.size 0) 1 1 (c64 [mU p 2]) ?_ rfl ?_ (Jk _) ?_ ?_ ?_ ?_
        ·first|rfl|simp[Act.eval]
        ·exact(hT5.oH).alloc _
        ·first|rfl|simp[Act.eval]
        ·exact mf _ _
        ·exact HL6.1
        ·exact HL6.2
        ·exact(vV _ _ _ (Vj hT5.box)).1
        intro v' w6 hown hgr hat
        obtain⟨ao',m',cp',hv'⟩:=kZ hown
        have hm:=(hT5.alloc (.cells #[Vb Vg (mU p 2)] 3)).RZ hgr
        have c6:=(Cw hm).1
        have f6:=wR hm 0
        have PU:=gu ((hT5.alloc (.cells #[Vb Vg (mU p 2)] 3)).Tu hgr hown hat)
        have BL:=gu ((hB5.alloc (aK (Vj hT5.box)) (.cells #[Vb Vg (mU p 2)] 3)).grown hgr (vV _ _ _ (Vj hT5.box)).2 (fun q hq=>Nat.le_of_succ_le (xR hT5.oH q hq).1))
        subst hv'
        clear hown hgr hat hm))
     all_goals go_wp2
     all_goals go_roundg (gk-1)
     case measure=>omega
     case measure=>omega
     case measure=>omega
     all_goals exact⟨k+1,_,_,by omega,by omega,by go_num,by rw[HHN hk8];exact gB PU,BL.setCell (ai _) _⟩
    ·have HT2:=gu hT'
     have HBEL2:=gu hB'
     clear hT' hB'
     go_wp2
     go_roundg (gk-1)
     case measure=>omega
     case rel=>exact⟨k+1,_,_,by omega,by omega,by go_num,by rw[HHS (by omega)];exact gB HT2,HBEL2⟩
  ·have e:k=64:=by omega
   subst e
   have HT2:=gu hT
   have HBEL2:=gu hbel
   clear hT hbel
   go_wp2
   go_ret
   have e:=gB HBE
   subst e
   exact⟨gp,_,_,rfl,HT2,HBEL2⟩
end Ht
end Go.Proofs.YtbhbbeebncmaiaaGreatDoor
