import Derived.Test.YtdgacidndknceaaGreatDoorMg02
import Derived.Test.YtdgacidndknceaaGreatDoorMg07
import Derived.Test.YtdgacidndknceaaGreatDoorMg12
set_option linter.all false
set_option maxHeartbeats 2000000
open Go.ChangeShapes Go.WideShapes Go.ChangeAt Go.RowKit
open Go renaming World → fV
open Go.Proofs.Tryz
namespace Go.Proofs.YtdgacidndknceaaGreatDoor
namespace Dh
open Bs
theorem below_drewN{N:Nat}{a w:fV}(h:Below N a w)(n:Nat):Below N a (w.drewN n):=⟨h.os,h.tape,h.output,h.size,h.block⟩
def gT(os:gU):List Value:=os.flatMap fun o=> [.int .u8 o.1.toNat,.string ⟨o.2.toArray⟩]
theorem kr(os:gU):(gT os).length=os.length*2:=by
 induction os with
 |nil=>rfl
 |cons o r ih=>simp only[gT,bF,ak,aj,aP]at ih ⊢;omega
theorem iV(a b:gU):gT (a++b)=gT a++gT b:=by simp[gT]
theorem qP(os:gU)(i:Nat)(h:i<os.length):(gT os)[i*2]?=some (.int .u8 os[i].1.toNat)/\(gT os)[i*2+1]?=some (.string ⟨os[i].2.toArray⟩):=by
 induction os generalizing i with
 |nil=>simp at h
 |cons o r ih=>
  cases i with
  |zero=>exact⟨rfl,rfl⟩
  |succ i=>
   have:=ih i (by simpa using h)
   simp only[gT,bF]at this ⊢
   rw[show(i+1)*2=i*2+1+1 by omega]
   simpa using this
theorem jM(os:gU):∀u ∈ gT os,u.oneCell'=true:=by
 intro u hu
 simp only[gT,List.mem_flatMap]at hu
 obtain⟨o,_,ho⟩:=hu
 simp at ho
 rcases ho with rfl|rfl<;>rfl
theorem El(ad:Addr)(n:Nat):(⟨(ad.add n).block,(ad.add n).off+1,none⟩:Addr)=ad.add (n+1):=by
 unfold Addr.add
 by_cases h:n=0
 ·subst h;simp
 ·simp[h];omega
theorem At.Jr{w:fV}{ad:Addr}{os:gU}(h:∀j u,(gT os)[j]?=some u->w.cell? (ad.add j)=some u):At w (some ad) os:=fun i hi=>by
 obtain⟨g0,g1⟩:=qP os i hi
 exact⟨ad,rfl,h _ _ g0,by rw[El];exact h _ _ g1⟩
end Dh
namespace Dh
open Bs
open Rd (iL iH gH gV mH il vP pu ky)
theorem Du(B:Nat)(w:fV)(h:iL w B []):
  Calls prog 109 #[p_ B] w fun e w'=>e=.panicked (iH 1)/\w'=w:=by
 have HN:=M0 (vP B [] 1 w h (by simp))
 clear h
 go_enter func109,ntmps109
 go_wp2_with fail
 refine HN.mono ?_
 rintro e w1 ⟨rfl,rfl⟩
 exact⟨rfl,rfl,rfl⟩
theorem lM:(prog.info? 138).map (fun i=>(i.zero,i.size,i.bytes))=some (some (.agg #[.int .u8 0,.string ⟨#[]⟩]),2,24):=by kernel_rfl
def ax2(l:List UInt8)(B:Nat)(w:fV)(e:Ending)(w':fV):Prop:=
 w.grownBy w' (some B)/\match pieces l with
  |none=>e=.panicked (iH 1)
  |some ps=>∃v,e=.returned v/\w'.ownsRow w.heap.size 138 2 v ps.length (gT ps)
theorem FK{w w':fV}{B base:Nat}{v:Value}{n:Nat}{xs:List Value}{t:TypeId}{z:Nat}(h:w.ownsRow base t z v n xs)(hg:w.grownBy w' (some B))(hB:B<base):w'.ownsRow base t z v n xs:=
 h.kept hg (by
  cases hv:v.ownBlock with
  |none=>exact au rfl
  |some k=>refine aA (fun e=> ?_);have:=(h.lt k hv).1;obtain rfl:=aU e;omega)
theorem ib{w:fV}{b e z:Nat}{v:Value}{n:Nat}{xs:List Value}(h:w.ownsRow b e z v n xs):∃ao cp,v=.slice ao n cp:=by
 rcases h.2 with⟨rfl,rfl⟩|⟨g,cap,cur,rfl,_⟩
 ·exact⟨_,_,rfl⟩
 ·exact⟨_,_,rfl⟩
theorem KM{w wm w4:fV}{B:Nat}{r:Option Nat}(h:w.grownBy wm (some B))(hg:wm.grownBy w4 r)(hr:∀k,r=some k->w.heap.size<=k):w.grownBy w4 (some B):=
 ⟨hg.os.trans h.os,hg.tape.trans h.tape,hg.output.trans h.output,aG h.size hg.size,fun i hi hne=>(hg.block i (aQ hi h.size) (fun e=>by have:=hr i e.symm;omega)).trans (h.block i hi hne)⟩
theorem KT{w w4:fV}{B:Nat}{l:List UInt8}{r:Option Nat}(h:iL w B l)(hg:w.grownBy w4 r)(hr: ¬r=some B):iL w4 B l:=by
 unfold iL
 rw[hg.block B h.lt (fun e=>hr e.symm)]
 exact h
theorem Fw(l z:List UInt8)(c n:UInt8)(ps:List Pc)(h:pieces l=(pieces (c::n::z)).map fun r=>ps++r)(e1: ¬c.toNat=255)(e2: ¬c.toNat=0)(e3: ¬z.length<n.toNat):
  pieces l=(pieces (z.drop n.toNat)).map fun x=>(ps++ [(c,z.take n.toNat)])++x:=by
 refine h.trans ((aZ _ (sD c n z e1 e2 e3)).trans ?_)
 generalize pieces (z.drop n.toNat)=o
 cases o with
 |none=>rfl
 |some x=>simp
theorem Fa(B:Nat)(l:List UInt8)(w:fV)(h:iL w B l)(hl:l.length<=268435456):
  Calls prog 226 #[p_ B] w fun e w'=>ax2 l B w e w':=by
 obtain⟨i0,hi,hz0,hz1,hz2⟩:=Vx lM
 have HR:=M0 h
 have hB:=h.lt
 clear h
 go_enter func226,ntmps226
 go_wp2
 go_loopg [3] l.length (fun g v3 wr=>∃(m:List UInt8) (ps:List Pc),m.length=g/\g<=l.length/\2*ps.length+g<=l.length/\Hid (iL wr B m)/\Hid (wr.ownsRow w.heap.size 138 2 v3 ps.length (gT ps))/\Hid (pieces l=(pieces m).map fun r=>ps++r)/\Hid (w.grownBy wr (some B)))
 case atStart=>exact⟨l,[],rfl,ai _,by simp,HR,M0 (Vp _ _ _ _),M0 (by simp),M0 (il _ _)⟩
 case round=>
  obtain⟨m,ps,hm,hg,hps,H1,H2,H3,H4⟩:=hrel
  rename fV=>wr
  match m,hm with
  |[],hm=>
   go_wp2_with fail
   refine(Du B _ H1).mono ?_
   rintro e w1 ⟨rfl,rfl⟩
   refine⟨rfl,H4,?_⟩
   rw[gB H3,qX]
   rfl
  |c::r,hm=>
   have hc8:=c.toNat_lt
   have hrl:r.length+1=gk:=by simpa using hm
   go_wp2_with fail
   refine(ky B c r _ H1 (by simp only[aj,maxLen];omega)).mono ?_
   rintro e w1 ⟨rfl,r1,g1⟩
   have R1:=M0 r1
   have G1:=M0 (gH H4 g1)
   have O1:=M0 (FK H2 g1 hB)
   clear r1 g1 H1 H2 H4 hm
   by_cases e255:c.toNat=255
   ·have q:(((c.toNat:Nat):Int)==255)=true:=by simp[e255]
    have HP:Hid (pieces l=some ps):=M0 (by rw[gB H3,uS c r e255];simp)
    obtain⟨ao,cp,hv⟩:=ib O1
    clear H3
    subst hv
    go_wp2
    go_ret
    refine⟨G1,?_⟩
    rw[gB HP]
    exact⟨_,rfl,O1⟩
   ·have q:(((c.toNat:Nat):Int)==255)=false:=by simp;omega
    by_cases e0:c.toNat=0
    ·have q0:(((c.toNat:Nat):Int)==0)=true:=by simp[e0]
     have HP:Hid (pieces l=(pieces r).map fun x=>ps++x):=M0 (by rw[gB H3,sW c r e0])
     clear H3 e255 e0
     go_wp2
     go_roundg (gk-1)
     case rel=>exact⟨r,ps,by omega,by omega,by omega,R1,O1,HP,G1⟩
     case measure=>omega
    ·have q0:(((c.toNat:Nat):Int)==0)=false:=by simp;omega
     match r,hrl with
     |[],hrl=>
      have HP:Hid (pieces l=none):=M0 (by rw[gB H3,tV c e255 e0];rfl)
      clear H3 e255 e0
      go_wp2_with fail
      refine(Du B _ R1).mono ?_
      rintro e w2 ⟨rfl,rfl⟩
      refine⟨rfl,G1,?_⟩
      rw[gB HP]
     |n::z,hrl=>
      have hn8:=n.toNat_lt
      have hzl:z.length+2=gk:=by simpa using hrl
      go_wp2_with fail
      refine(ky B n z _ R1 (by simp only[aj,maxLen];omega)).mono ?_
      rintro e w2 ⟨rfl,r2,g2⟩
      have R2:=M0 r2
      have G2:=M0 (gH G1 g2)
      have O2:=M0 (FK O1 g2 hB)
      clear r2 g2 R1 G1 O1 hrl
      by_cases hfew:z.length<n.toNat
      ·have HP:Hid (pieces l=none):=M0 (by rw[gB H3,vB c n z e255 e0 hfew];rfl)
       clear H3 e255 e0
       go_wp2_with fail
       refine(vP B z (n.toNat:Int) _ R2 (by omega)).mono ?_
       rintro e w3 ⟨rfl,rfl⟩
       refine⟨rfl,G2,?_⟩
       rw[gB HP]
      ·have HP:Hid (pieces l=(pieces (z.drop n.toNat)).map fun x=>(ps++ [(c,z.take n.toNat)])++x):=M0 (Fw l z c n ps H3 e255 e0 hfew)
       clear H3 e255 e0
       have hw2:w.heap.size<=w2.heap.size:=G2.size
       have hpz:ps.length<=268435456:=by omega
       have OW:=M0 (VC (a:=(a_ B 0)) O2 hB (.string ⟨(z.drop n.toNat).toArray⟩))
       go_wp2_with (first|(go_at_call 147;refine(pu B z n.toNat _ R2 (by omega) (by simp only[maxLen];omega)).mono ?_;rintro e w3 ⟨rfl,rfl⟩)|(at_builtin;refine Vv _ rfl (.tmp 16) (.tmp 22) 200 rfl w.heap.size 138 i0 (.agg #[.int .u8 0,.string ⟨#[]⟩]) 2 24 eX hi hz0 hz1 hz2 rfl (by decide) _ ps.length (gT ps) rfl (OW.alloc _) (a_ w2.heap.size 0) 1 1 [.int .u8 c.toNat,.string ⟨(z.take n.toNat).toArray⟩] rfl rfl ?c1 ?one ?h63 ?hby ?hba ?_))
       case c1=>
        have q:=iW (w2.setCell (a_ B 0) (.string ⟨(z.drop n.toNat).toArray⟩)) [.int .u8 c.toNat,.string ⟨(z.take n.toNat).toArray⟩] 138
        simpa using q
       case one=>intro u hu;simp at hu;rcases hu with rfl|rfl<;>rfl
       case h63=>simp only[maxLen];omega
       case hby=>omega
       case hba=>simp;omega
       ·intro v' w4 hown hg4 _
        have hnew:∀k,Value.ownBlock _=some k->w.heap.size<=k:=fun k hk=>(O2.lt k hk).1
        have hG4:=KM (gV (gH G2 (mH (.string ⟨(z.drop n.toNat).toArray⟩))) (.cells #[.int .u8 c.toNat,.string ⟨(z.take n.toNat).toArray⟩] 138)) hg4 hnew
        have hR4:iL w4 B (z.drop n.toNat):=KT ((R2.set (z.drop n.toNat)).alloc _) hg4 (fun e=>by have:=hnew B e;omega)
        have R4:=M0 hR4
        have G4:=M0 hG4
        have hO4:w4.ownsRow w.heap.size 138 2 v' (ps++ [(c,z.take n.toNat)]).length (gT (ps++ [(c,z.take n.toNat)])):=by
         rw[ak,iV];exact hown
        have O4:=M0 hO4
        clear hown hg4 hnew hG4 hR4 hO4 OW O2 R2 G2
        go_wp2
        go_roundg (z.drop n.toNat).length
        case rel=>exact⟨z.drop n.toNat,ps++ [(c,z.take n.toNat)],rfl,by rw[aW];omega,by simp only[ak,aj,aP,aW];omega,R4,O4,HP,G4⟩
        case measure=>rw[aW];omega
end Dh
namespace gP
open Bs Rd
theorem other{w:fV}{B:Nat}{l:List UInt8}(h:iL w B l){a:Addr}(ha:B≠a.block)(v:Value):iL (w.setCell a v) B l:=by
 unfold iL at*;rw[R8 _ _ _ _ ha];exact h
theorem gN{a w:fV}{r:Option Nat}(h:a.grownBy w r){p:Addr}(hp:a.heap.size<=p.block)(v:Value):a.grownBy (w.setCell p v) r:=
 ⟨h.os,h.tape,h.output,by simpa[World.setCell]using h.size,fun k hk hr=>by rw[R8 _ _ _ _ (by omega)];exact h.block k hk hr⟩
theorem gD{w:fV}{g j:Nat}{c:Array Value}{t:TypeId}{v:Value}(h:w.heap[g]?=some (.cells c t (0,0)))(hj:c[j]?=some v):w.cell? (a_ g j)=some v:=by
 rw[dh w g j c t (0,0) h];exact hj
theorem gM{w:fV}{g:Nat}{c:Array Value}{t:TypeId}(h:w.heap[g]?=some (.cells c t (0,0))):∀j,w.frozen? (a_ g j)=false:=fun j=>by simp[World.frozen?,h]
theorem gI{w:fV}{g:Nat}{c:Array Value}{t:TypeId}(h:w.heap[g]?=some (.cells c t (0,0)))(j:Nat)(v:Value):(w.setCell (a_ g j) v).heap[g]?=some (.cells (c.setIfInBounds j v) t (0,0)):=by
 have hlt:=Vj h
 have h':w.heap[g]=.cells c t (0,0):=by simpa[aY hlt]using h
 show(w.heap.modify g _)[g]?=_
 rw[aY (by simpa using hlt),Array.getElem_modify_self,h']
 rfl
theorem sixth(l:List UInt8)(h:6<=l.length):∃a b c d e f r,l=a::b::c::d::e::f::r:=by
 match l,h with
 |a::b::c::d::e::f::r,_=>exact⟨a,b,c,d,e,f,r,rfl⟩
theorem second(l:List UInt8)(h:2<=l.length):∃a b r,l=a::b::r:=by
 match l,h with
 |a::b::r,_=>exact⟨a,b,r,rfl⟩
end gP
end Go.Proofs.YtdgacidndknceaaGreatDoor
