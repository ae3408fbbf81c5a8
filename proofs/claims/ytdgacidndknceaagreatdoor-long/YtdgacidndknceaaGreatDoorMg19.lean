import Derived.Test.YtdgacidndknceaaGreatDoorMg10
set_option linter.all false
set_option maxHeartbeats 4000000
set_option maxRecDepth 10000
open Go.ChangeShapes Go.WideShapes Go.ChangeAt Go.RowKit
open Go renaming World → fV, Calls → f_
open Go.RowKit renaming Below → gm
open Go.Proofs.Tryz renaming prog → Vh
open Go.Value renaming int → Vb
open Go.IntKind renaming u8 → Vd, u16 → Ve, u32 → Vf, i64 → Vg
open Go.Proofs.Tryz
namespace Go.Proofs.YtdgacidndknceaaGreatDoor
namespace Tf
open Bs
open Rd (iL iH gH gV mH il jh oo om)
theorem aG5:(prog.info? 146).map (fun i=>(i.zero,i.size,i.bytes))=some (some (.agg #[.string ⟨#[]⟩,.string ⟨#[]⟩]),2,32):=by kernel_rfl
def az4(l:List UInt8)(B:Nat)(w:fV)(e:Ending)(w':fV):Prop:=
 w.grownBy w' (some B)/\match Qr l with
  |none=>e=.panicked (iH 2)
  |some fs=>iL w' B []/\∃v,e=.returned v/\w'.ownsRow w.heap.size 146 2 v fs.length (Rf fs)
theorem FK{w w':fV}{B base:Nat}{v:Value}{n:Nat}{xs:List Value}{t:TypeId}{z:Nat}(h:w.ownsRow base t z v n xs)(hg:w.grownBy w' (some B))(hB:B<base):w'.ownsRow base t z v n xs:=
 h.kept hg (by
  cases hv:v.ownBlock with
  |none=>exact au rfl
  |some k=>refine aA (fun e=> ?_);have:=(h.lt k hv).1;obtain rfl:=aU e;omega)
theorem ib{w:fV}{b e z:Nat}{v:Value}{n:Nat}{xs:List Value}(h:w.ownsRow b e z v n xs):∃ao cp,v=.slice ao n cp:=by
 rcases h.2 with⟨rfl,rfl⟩|⟨g,cap,cur,rfl,_⟩
 ·exact⟨_,_,rfl⟩
 ·exact⟨_,_,rfl⟩
theorem ownsRow_below{w w':fV}{base:Nat}{e:TypeId}{size:Nat}{v:Value}{n:Nat}{xs:List Value}(h:w.ownsRow base e size v n xs)(hb:gm w.heap.size w w'):w'.ownsRow base e size v n xs:=
 h.kept (row:=none) ⟨hb.os,hb.tape,hb.output,hb.size,fun k hk _=>hb.block k hk⟩ (by cases v.ownBlock<;>simp)
theorem KM{w wm w4:fV}{B:Nat}{r:Option Nat}(h:w.grownBy wm (some B))(hg:wm.grownBy w4 r)(hr:∀k,r=some k->w.heap.size<=k):w.grownBy w4 (some B):=
 ⟨hg.os.trans h.os,hg.tape.trans h.tape,hg.output.trans h.output,aG h.size hg.size,fun i hi hne=>(hg.block i (aQ hi h.size) (fun e=>by have:=hr i e.symm;omega)).trans (h.block i hi hne)⟩
theorem KT{w w4:fV}{B:Nat}{l:List UInt8}{r:Option Nat}(h:iL w B l)(hg:w.grownBy w4 r)(hr: ¬r=some B):iL w4 B l:=by
 unfold iL
 rw[hg.block B h.lt (fun e=>hr e.symm)]
 exact h
theorem YQ(w:fV)(a:Addr)(v:Value):w.grownBy (w.setCell a v) (some a.block):=
 ⟨rfl,rfl,rfl,by simp[World.setCell],fun k hk hne=>by rw[R8 _ _ _ _ (fun e=>hne (by rw[e]))]⟩
theorem ap3{v:Value}{g:Nat}(h:∀k,v.ownBlock=some k->k<g):v.ownBlock=none∨v.ownBlock≠some g:=by
 cases hv:v.ownBlock with
 |none=>exact au rfl
 |some k=>exact aA (fun e=>by have:=h k hv;obtain rfl:=aU e;omega)
theorem ay1{w:fV}{B:Nat}{a b v:Value}{t:TypeId}(h:w.heap[B]?=some (.cells #[a,b] t (0,0))):(w.setCell (a_ B 0) v).heap[B]?=some (.cells #[v,b] t (0,0)):=by
 rw[VD w B 0 _ _ _ _ h,VB w B _ _ _ _ h];rfl
theorem av6{w:fV}{B:Nat}{a b v:Value}{t:TypeId}(h:w.heap[B]?=some (.cells #[a,b] t (0,0))):(w.setCell (a_ B 1) v).heap[B]?=some (.cells #[a,v] t (0,0)):=by
 rw[VD w B 1 _ _ _ _ h,VB w B _ _ _ _ h];rfl
theorem ac0{w:fV}{b:Nat}{v:Value}{fs:pO}(h:w.ownsRow b 146 2 v fs.length (Rf fs)):∃a cp,v=.slice a fs.length cp/\X9 w a fs:=by
 have hcl:=fun g hg=>h.cells (g:=g) hg
 rcases h.2 with⟨e,h0⟩|⟨g,cap,cur,e,_⟩
 ·exact⟨none,0,by rw[e,h0],fun i hi=>by omega⟩
 ·exact⟨some (a_ g 0),cap,e,X9.Jr (fun j u hj=>hcl g (by rw[e];rfl) j u hj)⟩
def Yu(l:List UInt8)(done:pO)(m:List UInt8):Prop:=kV l=(kV m).map fun r=>done++r
theorem am9{l m n r v r2:List UInt8}{done:pO}(h:Yu l done m)(h0:m≠ [])(h1:cut m=some (n,r))(h2:cut r=some (v,r2))(hn:iM n=true)(hv:iM v=true):Yu l (done++ [(pg n,v)]) r2:=by
 unfold Yu at*
 rw[h,Pe h0 h1 h2 hn hv]
 cases kV r2<;>simp
theorem Xw{l m:List UInt8}{done:pO}(h:Yu l done m)(h1:kV m=none):Qr l=none:=by
 unfold Yu at h
 unfold Qr
 rw[h,h1];rfl
theorem aq3{l:List UInt8}{done:pO}(h:Yu l done []):Qr l=if uT (qa done)then some done else none:=by
 unfold Yu at h
 unfold Qr
 rw[h,FX]
 simp
theorem YV(B:Nat)(l:List UInt8)(w:fV)(h:iL w B l)(hl:l.length<=268435456):
  f_ Vh 165 #[p_ B] w fun e w'=>az4 l B w e w':=by
 obtain⟨i0,hi,hz0,hz1,hz2⟩:=Vx aG5
 have HR:=M0 h
 have hB:=h.lt
 clear h
 go_enter func165,ntmps165
 go_wp2
 go_loopg [3] l.length (fun g v3 wr=>∃(m:List UInt8) (ps:pO),m.length=g/\g<=l.length/\2*ps.length+g<=l.length/\Hid (iL wr B m)/\Hid (wr.ownsRow w.heap.size 146 2 v3 ps.length (Rf ps))/\Hid (Yu l ps m)/\Hid (w.grownBy wr (some B)))
 case atStart=>exact⟨l,[],rfl,ai _,by simp,HR,M0 (Vp _ _ _ _),M0 (by unfold Yu;simp),M0 (il _ _)⟩
 case round=>
  obtain⟨m,ps,hm,hg,hps,H1,H2,H3,H4⟩:=hrel
  rename fV=>wr
  have hc:=Vm H1
  have hwz:=H4.size
  have hm1:m.length<=gk:=by omega
  have hm2:gk<=m.length:=by omega
  clear hm
  by_cases h0:m=[]
  ·subst h0
   have hie:(⟨([]:List UInt8).toArray⟩:ByteArray).toList.isEmpty=true:=by rw[Vw];rfl
   obtain⟨a3,c3,hv3,hat⟩:=ac0 H2
   subst hv3
   have HD:=M0 (Zl a3 c3 ps wr hat (by omega))
   have HE:=M0 (aq3 H3)
   obtain⟨b,hb⟩:∃b,b=uT (qa ps):=⟨_,rfl⟩
   rw[<-hb]at HD HE
   clear hb hat
   go_wp2_with fail
   refine HD.mono ?_
   rintro e u ⟨rfl,hbu⟩
   have HGu:Hid (w.grownBy u (some B)):=M0 (jh H4 hbu)
   have HOu:=M0 (ownsRow_below H2 hbu)
   have HRu:Hid (iL u B []):=M0 ((hbu.block B H1.lt).trans H1)
   clear hbu HD
   cases b with
   |true=>
    go_wp2_with fail
    refine(oo _ _).mono ?_
    rintro _ w3 ⟨rfl,hu⟩
    obtain rfl:=hu.symm
    go_wp2
    go_ret
    refine⟨HGu,?_⟩
    rw[gB HE]
    exact⟨HRu,_,rfl,HOu⟩
   |false=>
    go_wp2_with fail
    refine(om _ _).mono ?_
    rintro _ w3 ⟨rfl,hu⟩
    obtain rfl:=hu.symm
    refine⟨rfl,HGu,?_⟩
    rw[gB HE]
    rfl
  ·obtain⟨sm,hsm⟩:∃s:ByteArray,s=⟨m.toArray⟩:=⟨_,rfl⟩
   rw[<-hsm]at hc
   have hie:sm.toList.isEmpty=false:=by
    rw[Vw,hsm]
    show m.isEmpty=false
    cases m with
    |nil=>exact absurd rfl h0
    |cons=>rfl
   obtain⟨W,hWW⟩:∃W,W=wr.alloc (.cells #[.string ⟨#[]⟩,.string ⟨#[]⟩] 146):=⟨_,rfl⟩
   have R0:Hid (iL W B m):=M0 (by rw[hWW];exact H1.alloc _)
   have G0:Hid (w.grownBy W (some B)):=M0 (by rw[hWW];exact gV H4 _)
   have O0:Hid (W.ownsRow w.heap.size 146 2 _ ps.length (Rf ps)):=M0 (by rw[hWW];exact H2.alloc _)
   have X0:Hid (W.heap[wr.heap.size]?=some (.cells #[.string ⟨#[]⟩,.string ⟨#[]⟩] 146 (0,0))):=M0 (by rw[hWW];exact G8 wr _)
   have hne:wr.heap.size≠B:=by have:=H1.lt;omega
   have HWW:=M0 hWW
   have hml:m.length<=268435456:=by omega
   have H0:=M0 h0
   clear hWW hsm
   cases hcm:cut m with
   |none=>
    have HN:=M0 (Xw H3 (Bi h0 hcm))
    have HG:=M0 (XF B m W R0 hcm)
    clear hcm
    go_wp2_with fail
    rw[<-gB HWW]
    refine HG.mono ?_
    rintro e u ⟨rfl,gu⟩
    refine⟨rfl,gH G0 gu,?_⟩
    rw[gB HN]
   |some p=>
    obtain⟨n,r⟩:=p
    have hl1:=uA hcm
    have HL1:=M0 hl1
    have hl2:n.length+1+r.length<=m.length:=by omega
    clear hl1
    by_cases hn:iM n=true
    rotate_left
    ·have hn':iM n=false:=by simpa using hn
     have HN:=M0 (Xw H3 (Ph h0 hcm hn'))
     have HG:=M0 (XY B m n r W R0 hml hcm hn')
     clear hcm hn hn'
     go_wp2_with fail
     rw[<-gB HWW]
     refine HG.mono ?_
     rintro e u ⟨rfl,gu⟩
     refine⟨rfl,gH G0 gu,?_⟩
     rw[gB HN]
    ·have HG:=M0 (Yn B m n r W R0 hml hcm hn)
     have HSM:=M0 (fun u=>xB ⟨n.toArray⟩ n u rfl (by omega))
     go_wp2_with fail
     rw[<-gB HWW]
     refine HG.mono ?_
     rintro e w1 ⟨rfl,r1,g1⟩
     have R1:=M0 r1
     have G1:=M0 (gH G0 g1)
     have O1:=M0 (FK O0 g1 hB)
     have X1:Hid (w1.heap[wr.heap.size]?=some (.cells #[.string ⟨#[]⟩,.string ⟨#[]⟩] 146 (0,0))):=M0 ((g1.block wr.heap.size (Vj X0) (by simpa using hne)).trans X0)
     clear r1 g1 R0 G0 O0 X0 HG HWW hc
     go_wp2_with fail
     refine(HSM _).mono ?_
     rintro e w2 ⟨rfl,hb2⟩
     have R2:Hid (iL w2 B r):=M0 ((hb2.block B R1.lt).trans R1)
     have G2:=M0 (jh G1 hb2)
     have O2:=M0 (ownsRow_below O1 hb2)
     have X2:Hid (w2.heap[wr.heap.size]?=some (.cells #[.string ⟨#[]⟩,.string ⟨#[]⟩] 146 (0,0))):=M0 ((hb2.block _ (Vj X1)).trans X1)
     have x0:w2.cell? (a_ wr.heap.size 0)=some (.string ⟨#[]⟩):=dh w2 wr.heap.size 0 _ _ _ X2
     have x0f:w2.frozen? (a_ wr.heap.size 0)=false:=by simp[World.frozen?,gB X2]
     obtain⟨ln,hln⟩:∃s:ByteArray,s=⟨(pg n).toArray⟩:=⟨_,rfl⟩
     rw[<-hln]
     have HLN:=M0 hln
     clear hln
     obtain⟨W2,hW2⟩:∃W2,W2=w2.setCell (a_ wr.heap.size 0) (.string ln):=⟨_,rfl⟩
     have hwl:w.heap.size<=wr.heap.size:=hwz
     have HV3:Hid (∀k,Value.ownBlock _=some k->k<wr.heap.size):=M0 (fun k hk=>(H2.lt k hk).2)
     have R3:Hid (iL W2 B r):=M0 (by rw[hW2];exact KT R2 (YQ _ _ _) (by simpa using hne))
     have G3:Hid (w.grownBy W2 (some B)):=M0 (by rw[hW2];exact KM G2 (YQ _ _ _) (fun k hk=>by obtain rfl:=aU hk;exact hwl))
     have O3:=M0 (O2.kept (YQ w2 (a_ wr.heap.size 0) (.string ln)) (ap3 HV3))
     rw[<-hW2]at O3
     have X3:Hid (W2.heap[wr.heap.size]?=some (.cells #[.string ln,.string ⟨#[]⟩] 146 (0,0))):=M0 (by rw[hW2];exact ay1 X2)
     have HW2:=M0 hW2
     have hrl:r.length<=268435456:=by omega
     clear hW2 hb2 R1 G1 O1 X1 HSM R2 G2 O2
     cases hcr:cut r with
     |none=>
      have HN:=M0 (Xw H3 (Bz H0 hcm hcr))
      have HG:=M0 (XF B r W2 R3 hcr)
      clear hcr hcm hn
      go_wp2_with fail
      rw[<-gB HW2]
      refine HG.mono ?_
      rintro e u ⟨rfl,gu⟩
      refine⟨rfl,gH G3 gu,?_⟩
      rw[gB HN]
     |some p2=>
      obtain⟨v,r2⟩:=p2
      have hl3:v.length+1+r2.length<=r.length:=by have:=uA hcr;omega
      by_cases hv:iM v=true
      rotate_left
      ·have hv':iM v=false:=by simpa using hv
       have HN:=M0 (Xw H3 (Pz H0 hcm hcr hv'))
       have HG:=M0 (XY B r v r2 W2 R3 hrl hcr hv')
       clear hcr hcm hn hv hv'
       go_wp2_with fail
       rw[<-gB HW2]
       refine HG.mono ?_
       rintro e u ⟨rfl,gu⟩
       refine⟨rfl,gH G3 gu,?_⟩
       rw[gB HN]
      ·have HG:=M0 (Yn B r v r2 W2 R3 hrl hcr hv)
       have HST:=M0 (am9 H3 H0 hcm hcr hn hv)
       clear hcr hcm hn hv
       go_wp2_with fail
       rw[<-gB HW2]
       refine HG.mono ?_
       rintro e w4 ⟨rfl,r4,g4⟩
       have R4:=M0 r4
       have G4:=M0 (gH G3 g4)
       have O4:=M0 (FK O3 g4 hB)
       have X4:Hid (w4.heap[wr.heap.size]?=some (.cells #[.string ln,.string ⟨#[]⟩] 146 (0,0))):=M0 ((g4.block wr.heap.size (Vj X3) (by simpa using hne)).trans X3)
       obtain⟨vs,hvs⟩:∃s:ByteArray,s=⟨v.toArray⟩:=⟨_,rfl⟩
       rw[<-hvs]
       have x1:w4.cell? (a_ wr.heap.size 1)=some (.string ⟨#[]⟩):=dh w4 wr.heap.size 1 _ _ _ X4
       have x1f:w4.frozen? (a_ wr.heap.size 1)=false:=by simp[World.frozen?,gB X4]
       obtain⟨W5,hW5⟩:∃W5,W5=w4.setCell (a_ wr.heap.size 1) (.string vs):=⟨_,rfl⟩
       have R5:Hid (iL W5 B r2):=M0 (by rw[hW5];exact KT R4 (YQ _ _ _) (by simpa using hne))
       have G5:Hid (w.grownBy W5 (some B)):=M0 (by rw[hW5];exact KM G4 (YQ _ _ _) (fun k hk=>by obtain rfl:=aU hk;exact hwl))
       have O5:=M0 (O4.kept (YQ w4 (a_ wr.heap.size 1) (.string vs)) (ap3 HV3))
       rw[<-hW5]at O5
       have X5:Hid (W5.heap[wr.heap.size]?=some (.cells #[.string ln,.string vs] 146 (0,0))):=M0 (by rw[hW5];exact av6 X4)
       have y0:(w4.setCell (a_ wr.heap.size 1) (.string vs)).cell? (a_ wr.heap.size 0)=some (.string ln):=by rw[<-hW5];exact dh W5 wr.heap.size 0 _ _ _ X5
       have y1:(w4.setCell (a_ wr.heap.size 1) (.string vs)).cell? (a_ wr.heap.size 1)=some (.string vs):=by rw[<-hW5];exact dh W5 wr.heap.size 1 _ _ _ X5
       have HW5:=M0 hW5
       have HZ45:Hid (W5.heap.size=w4.heap.size):=M0 (by rw[hW5];simp)
       have hz5:w.heap.size<=W5.heap.size:=G5.size
       have HFE:Hid ([.string ln,.string vs]=Rf [(pg n,v)]):=M0 (by rw[gB HLN,hvs];rfl)
       clear r4 g4 HG R3 G3 O3 X3 HW2 R4 G4 O4 X4 hW5 hvs
       go_wp2_with (at_builtin;rw[<-gB HW5];refine Vv _ rfl (.tmp 17) (.tmp 19) 220 rfl w.heap.size 146 i0 (.agg #[.string ⟨#[]⟩,.string ⟨#[]⟩]) 2 32 underlying220 hi hz0 hz1 hz2 rfl (by decide) _ ps.length (Rf ps) rfl (O5.alloc _) (a_ W5.heap.size 0) 1 1 [.string ln,.string vs] ?ad rfl ?c1 ?one ?h63 ?hby ?hba ?_)
       case ad=>rw[gB HZ45];rfl
       case c1=>exact iW W5 [.string ln,.string vs] 146
       case one=>intro u hu;simp at hu;rcases hu with rfl|rfl<;>rfl
       case h63=>simp only[maxLen];omega
       case hby=>omega
       case hba=>simp;omega
       intro v' w6 hown hg6 _
       have hnew:∀k,Value.ownBlock _=some k->w.heap.size<=k:=fun k hk=>(O5.lt k hk).1
       have hG6:=KM (gV G5 (.cells #[.string ln,.string vs] 146)) hg6 hnew
       have hR6:iL w6 B r2:=KT (R5.alloc _) hg6 (fun e=>by have:=hnew B e;omega)
       have hO6:w6.ownsRow w.heap.size 146 2 v' (ps++ [(pg n,v)]).length (Rf (ps++ [(pg n,v)])):=by
        rw[ak,ZW,<-gB HFE]
        exact hown
       obtain⟨ao,cp,hv6⟩:=ib hO6
       have G6:=M0 hG6
       have R6:=M0 hR6
       have O6:=M0 hO6
       clear hown hg6 hnew hG6 hR6 hO6 R5 G5 O5 X5 x0 x0f x1 x1f y0 y1
       subst hv6
       go_wp2
       go_roundg r2.length
       case rel=>exact⟨r2,ps++ [(pg n,v)],rfl,by omega,by rw[ak];simp;omega,R6,O6,HST,G6⟩
       case measure=>omega
end Tf
namespace Tf
open Bs
open Rd (iL iH gH gV mH il jh oo om jo DV)
structure TS (w u:fV) (B:Nat) (l:List UInt8) (cs:Array Value):Prop where
 D8:iL u B l
 grown:w.grownBy u (some B)
 res:u.heap[w.heap.size]?=some (.cells zM_ 96 (0,0))
 var:u.heap[w.heap.size+1]?=some (.cells cs 96 (0,0))
theorem TS.start{w:fV}{B:Nat}{l:List UInt8}(h:iL w B l):TS w ((w.alloc (.cells zM_ 96)).alloc (.cells zM_ 96)) B l zM_:=by
 refine⟨(h.alloc _).alloc _,gV (gV (il _ _) _) _,?_,?_⟩
 ·rw[Vi _ _ _ (by simp)];exact G8 w _
 ·have q:=G8 (w.alloc (.cells zM_ 96)) (.cells zM_ 96)
  simpa using q
theorem TS.next{w u u2:fV}{B:Nat}{l l2:List UInt8}{cs:Array Value}(h:TS w u B l cs)(hB:B<w.heap.size)(hr:iL u2 B l2)(hg:u.grownBy u2 (some B)):TS w u2 B l2 cs:=
 ⟨hr,gH h.grown hg,(hg.block _ (Vj h.res) (by simp;omega)).trans h.res,(hg.block _ (Vj h.var) (by simp;omega)).trans h.var⟩
theorem TS.set{w u:fV}{B:Nat}{l:List UInt8}{cs:Array Value}(h:TS w u B l cs)(hB:B<w.heap.size)(j:Nat)(v:Value):TS w (u.setCell (a_ (w.heap.size+1) j) v) B l (cs.setIfInBounds j v):=
 ⟨KT h.D8 (YQ _ _ _) (by simp;omega),KM h.grown (YQ _ _ _) (fun k hk=>by obtain rfl:=aU hk;show w.heap.size<=w.heap.size+1;omega),by rw[R8 _ _ _ _ (by simp)];exact h.res,by rw[VD u (w.heap.size+1) j _ _ _ _ h.var,VB u (w.heap.size+1) _ _ _ _ h.var]⟩
theorem TS.cell{w u:fV}{B:Nat}{l:List UInt8}{cs:Array Value}(h:TS w u B l cs)(j:Nat):u.cell? (a_ (w.heap.size+1) j)=cs[j]?:=dh u _ j _ _ _ h.var
theorem TS.free{w u:fV}{B:Nat}{l:List UInt8}{cs:Array Value}(h:TS w u B l cs)(j:Nat):u.frozen? (a_ (w.heap.size+1) j)=false:=by simp[World.frozen?,h.var]
theorem TS.Wp{w u:fV}{B:Nat}{l:List UInt8}{cs:Array Value}(h:TS w u B l cs)(j:Nat):u.cell? (a_ w.heap.size j)=zM_[j]?:=dh u _ j _ _ _ h.res
theorem TS.af1{w u:fV}{B:Nat}{l:List UInt8}{cs:Array Value}(h:TS w u B l cs)(j:Nat):u.frozen? (a_ w.heap.size j)=false:=by simp[World.frozen?,h.res]
theorem TS.vlt{w u:fV}{B:Nat}{l:List UInt8}{cs:Array Value}(h:TS w u B l cs):w.heap.size+1<u.heap.size:=Vj h.var
theorem XU{w:fV}{g:Nat}{t:TypeId}(b0 b1 b2 b3 b4 v0 v1 v2 v3 v4:Value)(h:w.heap[g]?=some (.cells #[b0,b1,b2,b3,b4] t (0,0))):
  (((((w.setCell (a_ g 0) v0).setCell (a_ g 1) v1).setCell (a_ g 2) v2).setCell (a_ g 3) v3).setCell (a_ g 4) v4).heap[g]?=some (.cells #[v0,v1,v2,v3,v4] t (0,0)):=by
 have s1:∀(u:fV) (c:Array Value) (j:Nat) (v:Value),u.heap[g]?=some (.cells c t (0,0))->(u.setCell (a_ g j) v).heap[g]?=some (.cells (c.setIfInBounds j v) t (0,0)):=fun u c j v hu=>by
  rw[VD u g j _ _ _ _ hu,VB u g _ _ _ _ hu]
 have q:=s1 _ _ 4 v4 (s1 _ _ 3 v3 (s1 _ _ 2 v2 (s1 _ _ 1 v1 (s1 _ _ 0 v0 h))))
 simpa using q
def WA(l:List UInt8)(B:Nat)(w:fV)(ee:Ending)(w':fV):Prop:=
 w.grownBy w' (some B)/\((U5 l).1≠0/\ee=.panicked (iH (U5 l).1)∨(U5 l).1=0/\∃v,ee=.returned (.agg #[Vb Ve (U5 l).2.op,Vb Ve (U5 l).2.block,.string ⟨(U5 l).2.text.toArray⟩,.string ⟨(U5 l).2.data.toArray⟩,v])/\w'.ownsRow w.heap.size 146 2 v (U5 l).2.fs.length (Rf (U5 l).2.fs))
theorem Wo{l:List UInt8}{B:Nat}{w w':fV}{k:Nat}{m:RH}(h:U5 l=(k,m))(hk:k≠0)(hg:w.grownBy w' (some B)):WA l B w (.panicked (iH k)) w':=⟨hg,au (by rw[h];exact⟨hk,rfl⟩)⟩
theorem Xl(a b:UInt8)(k:Nat)(h:a.toNat*256+b.toNat=k):256*(a.toNat:Int)+(b.toNat:Int)=(k:Int):=by omega
theorem aF4(a b:UInt8)(r:List UInt8): ¬(a::b::r).length<2:=by simp
def ZU(op:Nat)(r:List UInt8):Nat×RH:=
 if op=1 then
  match cut r with
  |none=>(2,.zero)
  |some (n,r1)=>if iM n=false then(2,.zero)else match cut r1 with
   |none=>(2,.zero)
   |some (m,r2)=>if pg m≠Qy then(2,.zero)else match Qr r2 with
    |none=>(2,.zero)
    |some fs=>(0,⟨op,0,n,[],fs⟩)
 else if op=6 then match Qr r with
  |none=>(2,.zero)
  |some fs=>(0,⟨op,0,[],[],fs⟩)
 else if op=3∨op=4∨op=5 then
  if r.length<2 then(1,.zero)else
  let bl:=(r.getD 0 0).toNat*256+(r.getD 1 0).toNat
  let q:=r.drop 2
  if op=3 then(if 1024<q.length then(7,.zero)else(0,⟨op,bl,[],q,[]⟩))
  else if op=4 then(if q=[]then(0,⟨op,bl,[],[],[]⟩)else(2,.zero))
  else match cut q with
   |none=>(2,.zero)
   |some (t,q2)=>if q2=[]then(0,⟨op,bl,t,[],[]⟩)else(2,.zero)
 else(2,.zero)
theorem WB(a b:UInt8)(r:List UInt8):U5 (a::b::r)=ZU (a.toNat*256+b.toNat) r:=by
 unfold U5 ZU
 rw[ax (aF4 a b r)]
 rfl
theorem XN{l:List UInt8}{B:Nat}{w w':fV}{m:RH}{v:Value}{o bl:Int}{ts ds:ByteArray}(h:U5 l=(0,m))(ho:o=m.op)(hb:bl=m.block)(ht:ts=⟨m.text.toArray⟩)(hd:ds=⟨m.data.toArray⟩)(hg:w.grownBy w' (some B))(hown:w'.ownsRow w.heap.size 146 2 v m.fs.length (Rf m.fs)):WA l B w (.returned (.agg #[Vb Ve o,Vb Ve bl,.string ts,.string ds,v])) w':=
 ⟨hg,aA (by rw[h];subst ho hb ht hd;exact⟨rfl,v,rfl,hown⟩)⟩
theorem nT{w:fV}{b b':Nat}{e:TypeId}{z:Nat}{v:Value}{n:Nat}{xs:List Value}(h:w.ownsRow b e z v n xs)(hb:b'<=b):w.ownsRow b' e z v n xs:=by
 refine⟨h.1,?_⟩
 rcases h.2 with hx|⟨g,cap,cur,e1,e2,e3⟩
 ·exact au hx
 ·exact aA ⟨g,cap,cur,e1,aG hb e2,e3⟩
theorem aO6(B:Nat)(a b:UInt8)(r:List UInt8)(w:fV)(h:iL w B (a::b::r))(hs:r.length<=1048576)(hop:a.toNat*256+b.toNat=4):
  f_ Vh 127 #[p_ B] w fun ee w'=>WA (a::b::r) B w ee w':=by
 have hB:=h.lt
 have HS0:=M0 (TS.start h)
 have HW:=M0 (jo B a b r _ HS0.D8 (by simp only[aj,maxLen];omega))
 rw[Xl a b _ hop]at HW
 clear h
 go_enter func127,ntmps127
 go_wp2_with fail
 refine HW.mono ?_
 rintro ee w1 ⟨rfl,r1,g1⟩
 have HS1:=M0 (HS0.next hB r1 g1)
 clear r1 g1 HW HS0
 have v0:=HS1.cell 0
 have v0f:=HS1.free 0
 simp only[bC,eU]at v0
 have HS2:=M0 (HS1.set hB 0 (Vb Ve 4))
 obtain⟨W2,hW2⟩:∃W2,W2=w1.setCell (a_ (w.heap.size+1) 0) (Vb Ve 4):=⟨_,rfl⟩
 rw[<-hW2]at HS2
 have v1:(w1.setCell (a_ (w.heap.size+1) 0) (Vb Ve 4)).cell? (a_ (w.heap.size+1) 0)=some (Vb Ve 4):=by rw[<-hW2];exact HS2.cell 0
 have HW2:=M0 hW2
 clear hW2 HS1
 by_cases hsh:r.length<2
 ·have hrd:U5 (a::b::r)=(1,.zero):=by rw[WB,hop];unfold ZU;simp[hsh]
  have HN:=M0 (DV B r W2 HS2.D8 hsh)
  go_wp2_with fail
  rw[<-gB HW2]
  refine HN.mono ?_
  rintro ee wz ⟨rfl,hwz⟩
  exact⟨rfl,Wo hrd (by decide) (by rw[hwz];exact HS2.grown)⟩
 obtain⟨c,d,q,rfl⟩:∃c d q,r=c::d::q:=by
  match r,hsh with
  |[],h=>exact absurd (by simp) h
  |[_],h=>exact absurd (by simp) h
  |c::d::q,_=>exact⟨c,d,q,rfl⟩
 have HRD:=M0 (WB a b (c::d::q))
 rw[hop]at HRD
 have HN:=M0 (jo B c d q W2 HS2.D8 (by simp only[aj,maxLen]at hs ⊢;omega))
 obtain⟨bl,hbl⟩:∃bl:Int,bl=256*(c.toNat:Int)+(d.toNat:Int):=⟨_,rfl⟩
 rw[<-hbl]at HN
 have HBL:=M0 hbl
 have hql:q.length<=1048576:=by simp only[aj]at hs;omega
 clear hbl hsh hs
 go_wp2_with fail
 rw[<-gB HW2]
 refine HN.mono ?_
 rintro ee w3 ⟨rfl,r3,g3⟩
 have HS3:=M0 (HS2.next hB r3 g3)
 clear r3 g3 HN HW2 HS2 v0 v0f v1
 have fq1:w3.cell? (a_ (w.heap.size+1) 1)=some (Vb Ve 0):=HS3.cell 1
 have fq1f:=HS3.free 1
 obtain⟨W4,hW4⟩:∃u,u=w3.setCell (a_ (w.heap.size+1) 1) (Vb Ve bl):=⟨_,rfl⟩
 have HS4:=M0 (HS3.set hB 1 (Vb Ve bl))
 rw[<-hW4]at HS4
 have HW4:=M0 hW4
 clear hW4
 by_cases hne:q=[]
 ·subst hne
  have hrd:U5 (a::b::c::d:: [])=(0,⟨4,c.toNat*256+d.toNat,[],[],[]⟩):=by rw[gB HRD];unfold ZU;simp
  have HRD2:=M0 hrd
  clear hrd
  obtain⟨sq,hsq⟩:∃s:ByteArray,s=⟨([]:List UInt8).toArray⟩:=⟨_,rfl⟩
  have hrc0:=Vm HS4.D8
  rw[<-hsq]at hrc0
  have hrc:(w3.setCell (a_ (w.heap.size+1) 1) (Vb Ve bl)).cell? (a_ B 0)=some (.string sq):=by rw[<-gB HW4];exact hrc0
  have hie:sq.toList.isEmpty=true:=by rw[Vw,hsq];rfl
  clear hsq hrc0
  have c0:(w3.setCell (a_ (w.heap.size+1) 1) (Vb Ve bl)).cell? (a_ (w.heap.size+1) 0)=some (Vb Ve 4):=by rw[<-gB HW4];exact HS4.cell 0
  have c1:(w3.setCell (a_ (w.heap.size+1) 1) (Vb Ve bl)).cell? (a_ (w.heap.size+1) 1)=some (Vb Ve bl):=by rw[<-gB HW4];exact HS4.cell 1
  have c2:(w3.setCell (a_ (w.heap.size+1) 1) (Vb Ve bl)).cell? (a_ (w.heap.size+1) 2)=some (.string ⟨#[]⟩):=by rw[<-gB HW4];exact HS4.cell 2
  have c3:(w3.setCell (a_ (w.heap.size+1) 1) (Vb Ve bl)).cell? (a_ (w.heap.size+1) 3)=some (.string ⟨#[]⟩):=by rw[<-gB HW4];exact HS4.cell 3
  have c4:(w3.setCell (a_ (w.heap.size+1) 1) (Vb Ve bl)).cell? (a_ (w.heap.size+1) 4)=some (.slice none 0 0):=by rw[<-gB HW4];exact HS4.cell 4
  have p0:(w3.setCell (a_ (w.heap.size+1) 1) (Vb Ve bl)).cell? (a_ w.heap.size 0)=some (Vb Ve 0):=by rw[<-gB HW4];exact HS4.Wp 0
  have p1:(w3.setCell (a_ (w.heap.size+1) 1) (Vb Ve bl)).cell? (a_ w.heap.size 1)=some (Vb Ve 0):=by rw[<-gB HW4];exact HS4.Wp 1
  have p2:(w3.setCell (a_ (w.heap.size+1) 1) (Vb Ve bl)).cell? (a_ w.heap.size 2)=some (.string ⟨#[]⟩):=by rw[<-gB HW4];exact HS4.Wp 2
  have p3:(w3.setCell (a_ (w.heap.size+1) 1) (Vb Ve bl)).cell? (a_ w.heap.size 3)=some (.string ⟨#[]⟩):=by rw[<-gB HW4];exact HS4.Wp 3
  have p4:(w3.setCell (a_ (w.heap.size+1) 1) (Vb Ve bl)).cell? (a_ w.heap.size 4)=some (.slice none 0 0):=by rw[<-gB HW4];exact HS4.Wp 4
  have pf:∀j,(w3.setCell (a_ (w.heap.size+1) 1) (Vb Ve bl)).frozen? (a_ w.heap.size j)=false:=by rw[<-gB HW4];exact HS4.af1
  obtain⟨U,hU⟩:∃U,U=((((W4.setCell (a_ w.heap.size 0) (Vb Ve 4)).setCell (a_ w.heap.size 1) (Vb Ve bl)).setCell (a_ w.heap.size 2) (.string ⟨#[]⟩)).setCell (a_ w.heap.size 3) (.string ⟨#[]⟩)).setCell (a_ w.heap.size 4) (.slice none 0 0):=⟨_,rfl⟩
  have hu:U.heap[w.heap.size]?=some (.cells (rM 4 bl ⟨#[]⟩ ⟨#[]⟩ none 0 0) 96 (0,0)):=by rw[hU];exact XU _ _ _ _ _ _ _ _ _ _ HS4.res
  have y0:U.cell? (a_ w.heap.size 0)=some (Vb Ve 4):=dh U _ 0 _ _ _ hu
  have y1:U.cell? (a_ w.heap.size 1)=some (Vb Ve bl):=dh U _ 1 _ _ _ hu
  have y2:U.cell? (a_ w.heap.size 2)=some (.string ⟨#[]⟩):=dh U _ 2 _ _ _ hu
  have y3:U.cell? (a_ w.heap.size 3)=some (.string ⟨#[]⟩):=dh U _ 3 _ _ _ hu
  have y4:U.cell? (a_ w.heap.size 4)=some (.slice none 0 0):=dh U _ 4 _ _ _ hu
  have hgU:w.grownBy U (some B):=by
   rw[hU]
   iterate 5 refine KM ?_ (YQ _ _ _) (fun k hk=>by obtain rfl:=aU hk;exact ai _)
   exact HS4.grown
  have hoU:U.ownsRow w.heap.size 146 2 (.slice none 0 0) 0 []:=by
   rw[hU]
   refine nT (b:=w.heap.size+1) ?_ (by omega)
   iterate 5 refine VC ?_ (by show w.heap.size<_;omega) _
   exact Vp _ _ _ _
  have HU:=M0 (show U=(((((w3.setCell (a_ (w.heap.size+1) 1) (Vb Ve bl)).setCell (a_ w.heap.size 0) (Vb Ve 4)).setCell (a_ w.heap.size 1) (Vb Ve bl)).setCell (a_ w.heap.size 2) (.string ⟨#[]⟩)).setCell (a_ w.heap.size 3) (.string ⟨#[]⟩)).setCell (a_ w.heap.size 4) (.slice none 0 0)by rw[<-gB HW4];exact hU)
  have HGU:=M0 hgU
  have HOU:=M0 hoU
  clear hU hu hgU hoU
  go_wp2_with fail
  refine(oo _ _).mono ?_
  rintro _ wz ⟨rfl,hwz⟩
  obtain rfl:=hwz.symm
  go_wp2
  rw[<-gB HU]
  exact Vl (v:=.agg (rM 4 bl ⟨#[]⟩ ⟨#[]⟩ none 0 0)) (by simp[results,results127,go_sem,y0,y1,y2,y3,y4]) rfl (XN HRD2 rfl (by have:=gB HBL;simp;omega) rfl rfl HGU HOU)
 ·have hrd:U5 (a::b::c::d::q)=(2,.zero):=by rw[gB HRD];unfold ZU;simp[hne]
  have HRD2:=M0 hrd
  clear hrd
  obtain⟨sq,hsq⟩:∃s:ByteArray,s=⟨q.toArray⟩:=⟨_,rfl⟩
  have hrc0:=Vm HS4.D8
  rw[<-hsq]at hrc0
  have hrc:(w3.setCell (a_ (w.heap.size+1) 1) (Vb Ve bl)).cell? (a_ B 0)=some (.string sq):=by rw[<-gB HW4];exact hrc0
  have hie:sq.toList.isEmpty=false:=by
   rw[Vw,hsq]
   show q.isEmpty=false
   cases hq0:q with
   |nil=>exact absurd hq0 hne
   |cons=>rfl
  clear hsq hrc0
  go_wp2_with fail
  refine(om _ _).mono ?_
  rintro _ wz ⟨rfl,hwz⟩
  obtain rfl:=hwz.symm
  exact⟨rfl,Wo HRD2 (by decide) (by rw[<-gB HW4];exact HS4.grown)⟩
theorem aP0(B:Nat)(a b:UInt8)(r:List UInt8)(w:fV)(h:iL w B (a::b::r))(hs:r.length<=1048576)(hop:a.toNat*256+b.toNat=3):
  f_ Vh 127 #[p_ B] w fun ee w'=>WA (a::b::r) B w ee w':=by
 have hB:=h.lt
 have HS0:=M0 (TS.start h)
 have HW:=M0 (jo B a b r _ HS0.D8 (by simp only[aj,maxLen];omega))
 rw[Xl a b _ hop]at HW
 clear h
 go_enter func127,ntmps127
 go_wp2_with fail
 refine HW.mono ?_
 rintro ee w1 ⟨rfl,r1,g1⟩
 have HS1:=M0 (HS0.next hB r1 g1)
 clear r1 g1 HW HS0
 have v0:=HS1.cell 0
 have v0f:=HS1.free 0
 simp only[bC,eU]at v0
 have HS2:=M0 (HS1.set hB 0 (Vb Ve 3))
 obtain⟨W2,hW2⟩:∃W2,W2=w1.setCell (a_ (w.heap.size+1) 0) (Vb Ve 3):=⟨_,rfl⟩
 rw[<-hW2]at HS2
 have v1:(w1.setCell (a_ (w.heap.size+1) 0) (Vb Ve 3)).cell? (a_ (w.heap.size+1) 0)=some (Vb Ve 3):=by rw[<-hW2];exact HS2.cell 0
 have HW2:=M0 hW2
 clear hW2 HS1
 by_cases hsh:r.length<2
 ·have hrd:U5 (a::b::r)=(1,.zero):=by rw[WB,hop];unfold ZU;simp[hsh]
  have HN:=M0 (DV B r W2 HS2.D8 hsh)
  go_wp2_with fail
  rw[<-gB HW2]
  refine HN.mono ?_
  rintro ee wz ⟨rfl,hwz⟩
  exact⟨rfl,Wo hrd (by decide) (by rw[hwz];exact HS2.grown)⟩
 obtain⟨c,d,q,rfl⟩:∃c d q,r=c::d::q:=by
  match r,hsh with
  |[],h=>exact absurd (by simp) h
  |[_],h=>exact absurd (by simp) h
  |c::d::q,_=>exact⟨c,d,q,rfl⟩
 have HRD:=M0 (WB a b (c::d::q))
 rw[hop]at HRD
 have HN:=M0 (jo B c d q W2 HS2.D8 (by simp only[aj,maxLen]at hs ⊢;omega))
 obtain⟨bl,hbl⟩:∃bl:Int,bl=256*(c.toNat:Int)+(d.toNat:Int):=⟨_,rfl⟩
 rw[<-hbl]at HN
 have HBL:=M0 hbl
 have hql:q.length<=1048576:=by simp only[aj]at hs;omega
 clear hbl hsh hs
 go_wp2_with fail
 rw[<-gB HW2]
 refine HN.mono ?_
 rintro ee w3 ⟨rfl,r3,g3⟩
 have HS3:=M0 (HS2.next hB r3 g3)
 clear r3 g3 HN HW2 HS2 v0 v0f v1
 have fq1:w3.cell? (a_ (w.heap.size+1) 1)=some (Vb Ve 0):=HS3.cell 1
 have fq1f:=HS3.free 1
 obtain⟨W4,hW4⟩:∃u,u=w3.setCell (a_ (w.heap.size+1) 1) (Vb Ve bl):=⟨_,rfl⟩
 have HS4:=M0 (HS3.set hB 1 (Vb Ve bl))
 rw[<-hW4]at HS4
 have HW4:=M0 hW4
 clear hW4
 by_cases hbig:1024<q.length
 ·have hrd:U5 (a::b::c::d::q)=(7,.zero):=by rw[gB HRD];unfold ZU;simp[hbig]
  have HG:=M0 (am4 B q W4 HS4.D8 (by omega) hbig)
  go_wp2_with fail
  rw[<-gB HW4]
  refine HG.mono ?_
  rintro ee wz ⟨rfl,gz⟩
  exact⟨rfl,Wo hrd (by decide) (gH HS4.grown gz)⟩
 have hrd:U5 (a::b::c::d::q)=(0,⟨3,c.toNat*256+d.toNat,[],q,[]⟩):=by rw[gB HRD];unfold ZU;simp[hbig]
 have HRD2:=M0 hrd
 have HG:=M0 (an7 B q W4 HS4.D8 (by omega) (by omega))
 obtain⟨ds,hds⟩:∃s:ByteArray,s=⟨q.toArray⟩:=⟨_,rfl⟩
 rw[<-hds]at HG
 have HDS:=M0 hds
 clear hrd hds hbig
 go_wp2_with fail
 rw[<-gB HW4]
 refine HG.mono ?_
 rintro ee w5 ⟨rfl,r5,g5⟩
 have HS5:=M0 (HS4.next hB r5 g5)
 clear r5 g5 HG HW4 HS4 fq1 fq1f HS3
 have fq3:w5.cell? (a_ (w.heap.size+1) 3)=some (.string ⟨#[]⟩):=HS5.cell 3
 have fq3f:=HS5.free 3
 obtain⟨W6,hW6⟩:∃u,u=w5.setCell (a_ (w.heap.size+1) 3) (.string ds):=⟨_,rfl⟩
 have HS6:=M0 (HS5.set hB 3 (.string ds))
 rw[<-hW6]at HS6
 have HW6:=M0 hW6
 clear hW6
 obtain⟨sq,hsq⟩:∃s:ByteArray,s=⟨([]:List UInt8).toArray⟩:=⟨_,rfl⟩
 have hrc0:=Vm HS6.D8
 rw[<-hsq]at hrc0
 have hrc:(w5.setCell (a_ (w.heap.size+1) 3) (.string ds)).cell? (a_ B 0)=some (.string sq):=by rw[<-gB HW6];exact hrc0
 have hie:sq.toList.isEmpty=true:=by rw[Vw,hsq];rfl
 clear hsq hrc0
 have c0:(w5.setCell (a_ (w.heap.size+1) 3) (.string ds)).cell? (a_ (w.heap.size+1) 0)=some (Vb Ve 3):=by rw[<-gB HW6];exact HS6.cell 0
 have c1:(w5.setCell (a_ (w.heap.size+1) 3) (.string ds)).cell? (a_ (w.heap.size+1) 1)=some (Vb Ve bl):=by rw[<-gB HW6];exact HS6.cell 1
 have c2:(w5.setCell (a_ (w.heap.size+1) 3) (.string ds)).cell? (a_ (w.heap.size+1) 2)=some (.string ⟨#[]⟩):=by rw[<-gB HW6];exact HS6.cell 2
 have c3:(w5.setCell (a_ (w.heap.size+1) 3) (.string ds)).cell? (a_ (w.heap.size+1) 3)=some (.string ds):=by rw[<-gB HW6];exact HS6.cell 3
 have c4:(w5.setCell (a_ (w.heap.size+1) 3) (.string ds)).cell? (a_ (w.heap.size+1) 4)=some (.slice none 0 0):=by rw[<-gB HW6];exact HS6.cell 4
 have p0:(w5.setCell (a_ (w.heap.size+1) 3) (.string ds)).cell? (a_ w.heap.size 0)=some (Vb Ve 0):=by rw[<-gB HW6];exact HS6.Wp 0
 have p1:(w5.setCell (a_ (w.heap.size+1) 3) (.string ds)).cell? (a_ w.heap.size 1)=some (Vb Ve 0):=by rw[<-gB HW6];exact HS6.Wp 1
 have p2:(w5.setCell (a_ (w.heap.size+1) 3) (.string ds)).cell? (a_ w.heap.size 2)=some (.string ⟨#[]⟩):=by rw[<-gB HW6];exact HS6.Wp 2
 have p3:(w5.setCell (a_ (w.heap.size+1) 3) (.string ds)).cell? (a_ w.heap.size 3)=some (.string ⟨#[]⟩):=by rw[<-gB HW6];exact HS6.Wp 3
 have p4:(w5.setCell (a_ (w.heap.size+1) 3) (.string ds)).cell? (a_ w.heap.size 4)=some (.slice none 0 0):=by rw[<-gB HW6];exact HS6.Wp 4
 have pf:∀j,(w5.setCell (a_ (w.heap.size+1) 3) (.string ds)).frozen? (a_ w.heap.size j)=false:=by rw[<-gB HW6];exact HS6.af1
 obtain⟨U,hU⟩:∃U,U=((((W6.setCell (a_ w.heap.size 0) (Vb Ve 3)).setCell (a_ w.heap.size 1) (Vb Ve bl)).setCell (a_ w.heap.size 2) (.string ⟨#[]⟩)).setCell (a_ w.heap.size 3) (.string ds)).setCell (a_ w.heap.size 4) (.slice none 0 0):=⟨_,rfl⟩
 have hu:U.heap[w.heap.size]?=some (.cells (rM 3 bl ⟨#[]⟩ ds none 0 0) 96 (0,0)):=by rw[hU];exact XU _ _ _ _ _ _ _ _ _ _ HS6.res
 have y0:U.cell? (a_ w.heap.size 0)=some (Vb Ve 3):=dh U _ 0 _ _ _ hu
 have y1:U.cell? (a_ w.heap.size 1)=some (Vb Ve bl):=dh U _ 1 _ _ _ hu
 have y2:U.cell? (a_ w.heap.size 2)=some (.string ⟨#[]⟩):=dh U _ 2 _ _ _ hu
 have y3:U.cell? (a_ w.heap.size 3)=some (.string ds):=dh U _ 3 _ _ _ hu
 have y4:U.cell? (a_ w.heap.size 4)=some (.slice none 0 0):=dh U _ 4 _ _ _ hu
 have hgU:w.grownBy U (some B):=by
  rw[hU]
  iterate 5 refine KM ?_ (YQ _ _ _) (fun k hk=>by obtain rfl:=aU hk;exact ai _)
  exact HS6.grown
 have hoU:U.ownsRow w.heap.size 146 2 (.slice none 0 0) 0 []:=by
  rw[hU]
  refine nT (b:=w.heap.size+1) ?_ (by omega)
  iterate 5 refine VC ?_ (by show w.heap.size<_;omega) _
  exact Vp _ _ _ _
 have HU:=M0 (show U=(((((w5.setCell (a_ (w.heap.size+1) 3) (.string ds)).setCell (a_ w.heap.size 0) (Vb Ve 3)).setCell (a_ w.heap.size 1) (Vb Ve bl)).setCell (a_ w.heap.size 2) (.string ⟨#[]⟩)).setCell (a_ w.heap.size 3) (.string ds)).setCell (a_ w.heap.size 4) (.slice none 0 0)by rw[<-gB HW6];exact hU)
 have HGU:=M0 hgU
 have HOU:=M0 hoU
 clear hU hu hgU hoU
 go_wp2_with fail
 refine(oo _ _).mono ?_
 rintro _ wz ⟨rfl,hwz⟩
 obtain rfl:=hwz.symm
 go_wp2
 rw[<-gB HU]
 exact Vl (v:=.agg (rM 3 bl ⟨#[]⟩ ds none 0 0)) (by simp[results,results127,go_sem,y0,y1,y2,y3,y4]) rfl (XN HRD2 rfl (by have:=gB HBL;simp;omega) rfl HDS HGU HOU)
theorem aP2(B:Nat)(a b:UInt8)(r:List UInt8)(w:fV)(h:iL w B (a::b::r))(hs:r.length<=1048576)(hop:a.toNat*256+b.toNat=5):
  f_ Vh 127 #[p_ B] w fun ee w'=>WA (a::b::r) B w ee w':=by
 have hB:=h.lt
 have HS0:=M0 (TS.start h)
 have HW:=M0 (jo B a b r _ HS0.D8 (by simp only[aj,maxLen];omega))
 rw[Xl a b _ hop]at HW
 clear h
 go_enter func127,ntmps127
 go_wp2_with fail
 refine HW.mono ?_
 rintro ee w1 ⟨rfl,r1,g1⟩
 have HS1:=M0 (HS0.next hB r1 g1)
 clear r1 g1 HW HS0
 have v0:=HS1.cell 0
 have v0f:=HS1.free 0
 simp only[bC,eU]at v0
 have HS2:=M0 (HS1.set hB 0 (Vb Ve 5))
 obtain⟨W2,hW2⟩:∃W2,W2=w1.setCell (a_ (w.heap.size+1) 0) (Vb Ve 5):=⟨_,rfl⟩
 rw[<-hW2]at HS2
 have v1:(w1.setCell (a_ (w.heap.size+1) 0) (Vb Ve 5)).cell? (a_ (w.heap.size+1) 0)=some (Vb Ve 5):=by rw[<-hW2];exact HS2.cell 0
 have HW2:=M0 hW2
 clear hW2 HS1
 by_cases hsh:r.length<2
 ·have hrd:U5 (a::b::r)=(1,.zero):=by rw[WB,hop];unfold ZU;simp[hsh]
  have HN:=M0 (DV B r W2 HS2.D8 hsh)
  go_wp2_with fail
  rw[<-gB HW2]
  refine HN.mono ?_
  rintro ee wz ⟨rfl,hwz⟩
  exact⟨rfl,Wo hrd (by decide) (by rw[hwz];exact HS2.grown)⟩
 obtain⟨c,d,q,rfl⟩:∃c d q,r=c::d::q:=by
  match r,hsh with
  |[],h=>exact absurd (by simp) h
  |[_],h=>exact absurd (by simp) h
  |c::d::q,_=>exact⟨c,d,q,rfl⟩
 have HRD:=M0 (WB a b (c::d::q))
 rw[hop]at HRD
 have HN:=M0 (jo B c d q W2 HS2.D8 (by simp only[aj,maxLen]at hs ⊢;omega))
 obtain⟨bl,hbl⟩:∃bl:Int,bl=256*(c.toNat:Int)+(d.toNat:Int):=⟨_,rfl⟩
 rw[<-hbl]at HN
 have HBL:=M0 hbl
 have hql:q.length<=1048576:=by simp only[aj]at hs;omega
 clear hbl hsh hs
 go_wp2_with fail
 rw[<-gB HW2]
 refine HN.mono ?_
 rintro ee w3 ⟨rfl,r3,g3⟩
 have HS3:=M0 (HS2.next hB r3 g3)
 clear r3 g3 HN HW2 HS2 v0 v0f v1
 have fq1:w3.cell? (a_ (w.heap.size+1) 1)=some (Vb Ve 0):=HS3.cell 1
 have fq1f:=HS3.free 1
 obtain⟨W4,hW4⟩:∃u,u=w3.setCell (a_ (w.heap.size+1) 1) (Vb Ve bl):=⟨_,rfl⟩
 have HS4:=M0 (HS3.set hB 1 (Vb Ve bl))
 rw[<-hW4]at HS4
 have HW4:=M0 hW4
 clear hW4
 cases hcq:cut q with
 |none=>
  have hrd:U5 (a::b::c::d::q)=(2,.zero):=by rw[gB HRD];unfold ZU;simp[hcq]
  have HG:=M0 (Yo B q W4 HS4.D8 hcq)
  go_wp2_with fail
  rw[<-gB HW4]
  refine HG.mono ?_
  rintro ee wz ⟨rfl,hwz⟩
  exact⟨rfl,Wo hrd (by decide) (by rw[<-hwz];exact HS4.grown)⟩
 |some p=>
  obtain⟨t,q2⟩:=p
  have HG:=M0 (WV B q t q2 W4 HS4.D8 (by omega) hcq)
  obtain⟨ts,hts⟩:∃s:ByteArray,s=⟨t.toArray⟩:=⟨_,rfl⟩
  rw[<-hts]at HG
  have HTS:=M0 hts
  have HCQ:=M0 hcq
  clear hts hcq
  go_wp2_with fail
  rw[<-gB HW4]
  refine HG.mono ?_
  rintro ee w5 ⟨rfl,r5,g5⟩
  have HS5:=M0 (HS4.next hB r5 g5)
  clear r5 g5 HG HW4 HS4 fq1 fq1f HS3
  have fq2:w5.cell? (a_ (w.heap.size+1) 2)=some (.string ⟨#[]⟩):=HS5.cell 2
  have fq2f:=HS5.free 2
  obtain⟨W6,hW6⟩:∃u,u=w5.setCell (a_ (w.heap.size+1) 2) (.string ts):=⟨_,rfl⟩
  have HS6:=M0 (HS5.set hB 2 (.string ts))
  rw[<-hW6]at HS6
  have HW6:=M0 hW6
  clear hW6
  by_cases hne:q2=[]
  ·subst hne
   have hrd:U5 (a::b::c::d::q)=(0,⟨5,c.toNat*256+d.toNat,t,[],[]⟩):=by rw[gB HRD];unfold ZU;simp[gB HCQ]
   have HRD2:=M0 hrd
   clear hrd
   obtain⟨sq,hsq⟩:∃s:ByteArray,s=⟨([]:List UInt8).toArray⟩:=⟨_,rfl⟩
   have hrc0:=Vm HS6.D8
   rw[<-hsq]at hrc0
   have hrc:(w5.setCell (a_ (w.heap.size+1) 2) (.string ts)).cell? (a_ B 0)=some (.string sq):=by rw[<-gB HW6];exact hrc0
   have hie:sq.toList.isEmpty=true:=by rw[Vw,hsq];rfl
   clear hsq hrc0
   have c0:(w5.setCell (a_ (w.heap.size+1) 2) (.string ts)).cell? (a_ (w.heap.size+1) 0)=some (Vb Ve 5):=by rw[<-gB HW6];exact HS6.cell 0
   have c1:(w5.setCell (a_ (w.heap.size+1) 2) (.string ts)).cell? (a_ (w.heap.size+1) 1)=some (Vb Ve bl):=by rw[<-gB HW6];exact HS6.cell 1
   have c2:(w5.setCell (a_ (w.heap.size+1) 2) (.string ts)).cell? (a_ (w.heap.size+1) 2)=some (.string ts):=by rw[<-gB HW6];exact HS6.cell 2
   have c3:(w5.setCell (a_ (w.heap.size+1) 2) (.string ts)).cell? (a_ (w.heap.size+1) 3)=some (.string ⟨#[]⟩):=by rw[<-gB HW6];exact HS6.cell 3
   have c4:(w5.setCell (a_ (w.heap.size+1) 2) (.string ts)).cell? (a_ (w.heap.size+1) 4)=some (.slice none 0 0):=by rw[<-gB HW6];exact HS6.cell 4
   have p0:(w5.setCell (a_ (w.heap.size+1) 2) (.string ts)).cell? (a_ w.heap.size 0)=some (Vb Ve 0):=by rw[<-gB HW6];exact HS6.Wp 0
   have p1:(w5.setCell (a_ (w.heap.size+1) 2) (.string ts)).cell? (a_ w.heap.size 1)=some (Vb Ve 0):=by rw[<-gB HW6];exact HS6.Wp 1
   have p2:(w5.setCell (a_ (w.heap.size+1) 2) (.string ts)).cell? (a_ w.heap.size 2)=some (.string ⟨#[]⟩):=by rw[<-gB HW6];exact HS6.Wp 2
   have p3:(w5.setCell (a_ (w.heap.size+1) 2) (.string ts)).cell? (a_ w.heap.size 3)=some (.string ⟨#[]⟩):=by rw[<-gB HW6];exact HS6.Wp 3
   have p4:(w5.setCell (a_ (w.heap.size+1) 2) (.string ts)).cell? (a_ w.heap.size 4)=some (.slice none 0 0):=by rw[<-gB HW6];exact HS6.Wp 4
   have pf:∀j,(w5.setCell (a_ (w.heap.size+1) 2) (.string ts)).frozen? (a_ w.heap.size j)=false:=by rw[<-gB HW6];exact HS6.af1
   obtain⟨U,hU⟩:∃U,U=((((W6.setCell (a_ w.heap.size 0) (Vb Ve 5)).setCell (a_ w.heap.size 1) (Vb Ve bl)).setCell (a_ w.heap.size 2) (.string ts)).setCell (a_ w.heap.size 3) (.string ⟨#[]⟩)).setCell (a_ w.heap.size 4) (.slice none 0 0):=⟨_,rfl⟩
   have hu:U.heap[w.heap.size]?=some (.cells (rM 5 bl ts ⟨#[]⟩ none 0 0) 96 (0,0)):=by rw[hU];exact XU _ _ _ _ _ _ _ _ _ _ HS6.res
   have y0:U.cell? (a_ w.heap.size 0)=some (Vb Ve 5):=dh U _ 0 _ _ _ hu
   have y1:U.cell? (a_ w.heap.size 1)=some (Vb Ve bl):=dh U _ 1 _ _ _ hu
   have y2:U.cell? (a_ w.heap.size 2)=some (.string ts):=dh U _ 2 _ _ _ hu
   have y3:U.cell? (a_ w.heap.size 3)=some (.string ⟨#[]⟩):=dh U _ 3 _ _ _ hu
   have y4:U.cell? (a_ w.heap.size 4)=some (.slice none 0 0):=dh U _ 4 _ _ _ hu
   have hgU:w.grownBy U (some B):=by
    rw[hU]
    iterate 5 refine KM ?_ (YQ _ _ _) (fun k hk=>by obtain rfl:=aU hk;exact ai _)
    exact HS6.grown
   have hoU:U.ownsRow w.heap.size 146 2 (.slice none 0 0) 0 []:=by
    rw[hU]
    refine nT (b:=w.heap.size+1) ?_ (by omega)
    iterate 5 refine VC ?_ (by show w.heap.size<_;omega) _
    exact Vp _ _ _ _
   have HU:=M0 (show U=(((((w5.setCell (a_ (w.heap.size+1) 2) (.string ts)).setCell (a_ w.heap.size 0) (Vb Ve 5)).setCell (a_ w.heap.size 1) (Vb Ve bl)).setCell (a_ w.heap.size 2) (.string ts)).setCell (a_ w.heap.size 3) (.string ⟨#[]⟩)).setCell (a_ w.heap.size 4) (.slice none 0 0)by rw[<-gB HW6];exact hU)
   have HGU:=M0 hgU
   have HOU:=M0 hoU
   clear hU hu hgU hoU
   go_wp2_with fail
   refine(oo _ _).mono ?_
   rintro _ wz ⟨rfl,hwz⟩
   obtain rfl:=hwz.symm
   go_wp2
   rw[<-gB HU]
   exact Vl (v:=.agg (rM 5 bl ts ⟨#[]⟩ none 0 0)) (by simp[results,results127,go_sem,y0,y1,y2,y3,y4]) rfl (XN HRD2 rfl (by have:=gB HBL;simp;omega) HTS rfl HGU HOU)
  ·have hrd:U5 (a::b::c::d::q)=(2,.zero):=by rw[gB HRD];unfold ZU;simp[gB HCQ,hne]
   have HRD2:=M0 hrd
   clear hrd
   obtain⟨sq,hsq⟩:∃s:ByteArray,s=⟨q2.toArray⟩:=⟨_,rfl⟩
   have hrc0:=Vm HS6.D8
   rw[<-hsq]at hrc0
   have hrc:(w5.setCell (a_ (w.heap.size+1) 2) (.string ts)).cell? (a_ B 0)=some (.string sq):=by rw[<-gB HW6];exact hrc0
   have hie:sq.toList.isEmpty=false:=by
    rw[Vw,hsq]
    show q2.isEmpty=false
    cases hq0:q2 with
    |nil=>exact absurd hq0 hne
    |cons=>rfl
   clear hsq hrc0
   go_wp2_with fail
   refine(om _ _).mono ?_
   rintro _ wz ⟨rfl,hwz⟩
   obtain rfl:=hwz.symm
   exact⟨rfl,Wo HRD2 (by decide) (by rw[<-gB HW6];exact HS6.grown)⟩
theorem aP7(B:Nat)(a b:UInt8)(r:List UInt8)(w:fV)(h:iL w B (a::b::r))(hs:r.length<=1048576)(hop:a.toNat*256+b.toNat=6):
  f_ Vh 127 #[p_ B] w fun ee w'=>WA (a::b::r) B w ee w':=by
 have hB:=h.lt
 have HS0:=M0 (TS.start h)
 have HW:=M0 (jo B a b r _ HS0.D8 (by simp only[aj,maxLen];omega))
 rw[Xl a b _ hop]at HW
 clear h
 go_enter func127,ntmps127
 go_wp2_with fail
 refine HW.mono ?_
 rintro ee w1 ⟨rfl,r1,g1⟩
 have HS1:=M0 (HS0.next hB r1 g1)
 clear r1 g1 HW HS0
 have v0:=HS1.cell 0
 have v0f:=HS1.free 0
 simp only[bC,eU]at v0
 have HS2:=M0 (HS1.set hB 0 (Vb Ve 6))
 obtain⟨W2,hW2⟩:∃W2,W2=w1.setCell (a_ (w.heap.size+1) 0) (Vb Ve 6):=⟨_,rfl⟩
 rw[<-hW2]at HS2
 have v1:(w1.setCell (a_ (w.heap.size+1) 0) (Vb Ve 6)).cell? (a_ (w.heap.size+1) 0)=some (Vb Ve 6):=by rw[<-hW2];exact HS2.cell 0
 have HW2:=M0 hW2
 clear hW2 HS1
 have HG:=M0 (YV B r W2 HS2.D8 (by omega))
 have hvl:=HS2.vlt
 cases hfl:Qr r with
 |none=>
  have hrd:U5 (a::b::r)=(2,.zero):=by rw[WB,hop];unfold ZU;simp[hfl]
  go_wp2_with fail
  rw[<-gB HW2]
  refine HG.mono ?_
  rintro ee wz ⟨gz,hz⟩
  rw[hfl]at hz
  subst hz
  exact⟨rfl,Wo hrd (by decide) (gH HS2.grown gz)⟩
 |some fs=>
  have hrd:U5 (a::b::r)=(0,⟨6,0,[],[],fs⟩):=by rw[WB,hop];unfold ZU;simp[hfl]
  have HRD2:=M0 hrd
  have HFL:=M0 hfl
  clear hrd hfl
  go_wp2_with fail
  rw[<-gB HW2]
  refine HG.mono ?_
  rintro ee w7 ⟨g7,hz⟩
  rw[gB HFL]at hz
  obtain⟨r7,v,rfl,hown⟩:=hz
  obtain⟨sa,scp,rfl⟩:=ib hown
  have HS7:=M0 (HS2.next hB r7 g7)
  have HOW:=M0 hown
  have HVL:=M0 hvl
  clear r7 g7 hown hvl HG HW2 v0 v0f v1
  have fq4:w7.cell? (a_ (w.heap.size+1) 4)=some (.slice none 0 0):=HS7.cell 4
  have fq4f:=HS7.free 4
  obtain⟨W8,hW8⟩:∃u,u=w7.setCell (a_ (w.heap.size+1) 4) (.slice sa fs.length scp):=⟨_,rfl⟩
  have HS8:=M0 (HS7.set hB 4 (.slice sa fs.length scp))
  rw[<-hW8]at HS8
  have HW8:=M0 hW8
  clear hW8
  have HO8:Hid (W8.ownsRow (w.heap.size+1) 146 2 (.slice sa fs.length scp) fs.length (Rf fs)):=M0 (by
   rw[gB HW8]
   refine nT (VC HOW (by have:=gB HVL;show w.heap.size+1<_;omega) _) (by have:=gB HVL;omega))
  obtain⟨sq,hsq⟩:∃s:ByteArray,s=⟨([]:List UInt8).toArray⟩:=⟨_,rfl⟩
  have hrc0:=Vm HS8.D8
  rw[<-hsq]at hrc0
  have hrc:(w7.setCell (a_ (w.heap.size+1) 4) (.slice sa fs.length scp)).cell? (a_ B 0)=some (.string sq):=by rw[<-gB HW8];exact hrc0
  have hie:sq.toList.isEmpty=true:=by rw[Vw,hsq];rfl
  clear hsq hrc0
  have c0:(w7.setCell (a_ (w.heap.size+1) 4) (.slice sa fs.length scp)).cell? (a_ (w.heap.size+1) 0)=some (Vb Ve 6):=by rw[<-gB HW8];exact HS8.cell 0
  have c1:(w7.setCell (a_ (w.heap.size+1) 4) (.slice sa fs.length scp)).cell? (a_ (w.heap.size+1) 1)=some (Vb Ve 0):=by rw[<-gB HW8];exact HS8.cell 1
  have c2:(w7.setCell (a_ (w.heap.size+1) 4) (.slice sa fs.length scp)).cell? (a_ (w.heap.size+1) 2)=some (.string ⟨#[]⟩):=by rw[<-gB HW8];exact HS8.cell 2
  have c3:(w7.setCell (a_ (w.heap.size+1) 4) (.slice sa fs.length scp)).cell? (a_ (w.heap.size+1) 3)=some (.string ⟨#[]⟩):=by rw[<-gB HW8];exact HS8.cell 3
  have c4:(w7.setCell (a_ (w.heap.size+1) 4) (.slice sa fs.length scp)).cell? (a_ (w.heap.size+1) 4)=some (.slice sa fs.length scp):=by rw[<-gB HW8];exact HS8.cell 4
  have p0:(w7.setCell (a_ (w.heap.size+1) 4) (.slice sa fs.length scp)).cell? (a_ w.heap.size 0)=some (Vb Ve 0):=by rw[<-gB HW8];exact HS8.Wp 0
  have p1:(w7.setCell (a_ (w.heap.size+1) 4) (.slice sa fs.length scp)).cell? (a_ w.heap.size 1)=some (Vb Ve 0):=by rw[<-gB HW8];exact HS8.Wp 1
  have p2:(w7.setCell (a_ (w.heap.size+1) 4) (.slice sa fs.length scp)).cell? (a_ w.heap.size 2)=some (.string ⟨#[]⟩):=by rw[<-gB HW8];exact HS8.Wp 2
  have p3:(w7.setCell (a_ (w.heap.size+1) 4) (.slice sa fs.length scp)).cell? (a_ w.heap.size 3)=some (.string ⟨#[]⟩):=by rw[<-gB HW8];exact HS8.Wp 3
  have p4:(w7.setCell (a_ (w.heap.size+1) 4) (.slice sa fs.length scp)).cell? (a_ w.heap.size 4)=some (.slice none 0 0):=by rw[<-gB HW8];exact HS8.Wp 4
  have pf:∀j,(w7.setCell (a_ (w.heap.size+1) 4) (.slice sa fs.length scp)).frozen? (a_ w.heap.size j)=false:=by rw[<-gB HW8];exact HS8.af1
  obtain⟨U,hU⟩:∃U,U=((((W8.setCell (a_ w.heap.size 0) (Vb Ve 6)).setCell (a_ w.heap.size 1) (Vb Ve 0)).setCell (a_ w.heap.size 2) (.string ⟨#[]⟩)).setCell (a_ w.heap.size 3) (.string ⟨#[]⟩)).setCell (a_ w.heap.size 4) (.slice sa fs.length scp):=⟨_,rfl⟩
  have hu:U.heap[w.heap.size]?=some (.cells (rM 6 0 ⟨#[]⟩ ⟨#[]⟩ sa fs.length scp) 96 (0,0)):=by rw[hU];exact XU _ _ _ _ _ _ _ _ _ _ HS8.res
  have y0:U.cell? (a_ w.heap.size 0)=some (Vb Ve 6):=dh U _ 0 _ _ _ hu
  have y1:U.cell? (a_ w.heap.size 1)=some (Vb Ve 0):=dh U _ 1 _ _ _ hu
  have y2:U.cell? (a_ w.heap.size 2)=some (.string ⟨#[]⟩):=dh U _ 2 _ _ _ hu
  have y3:U.cell? (a_ w.heap.size 3)=some (.string ⟨#[]⟩):=dh U _ 3 _ _ _ hu
  have y4:U.cell? (a_ w.heap.size 4)=some (.slice sa fs.length scp):=dh U _ 4 _ _ _ hu
  have hgU:w.grownBy U (some B):=by
   rw[hU]
   iterate 5 refine KM ?_ (YQ _ _ _) (fun k hk=>by obtain rfl:=aU hk;exact ai _)
   exact HS8.grown
  have hoU:U.ownsRow w.heap.size 146 2 (.slice sa fs.length scp) fs.length (Rf fs):=by
   rw[hU]
   refine nT (b:=w.heap.size+1) ?_ (by omega)
   iterate 5 refine VC ?_ (by show w.heap.size<_;omega) _
   exact(gB HO8)
  have HU:=M0 (show U=(((((w7.setCell (a_ (w.heap.size+1) 4) (.slice sa fs.length scp)).setCell (a_ w.heap.size 0) (Vb Ve 6)).setCell (a_ w.heap.size 1) (Vb Ve 0)).setCell (a_ w.heap.size 2) (.string ⟨#[]⟩)).setCell (a_ w.heap.size 3) (.string ⟨#[]⟩)).setCell (a_ w.heap.size 4) (.slice sa fs.length scp)by rw[<-gB HW8];exact hU)
  have HGU:=M0 hgU
  have HOU:=M0 hoU
  clear hU hu hgU hoU
  go_wp2_with fail
  refine(oo _ _).mono ?_
  rintro _ wz ⟨rfl,hwz⟩
  obtain rfl:=hwz.symm
  go_wp2
  rw[<-gB HU]
  exact Vl (v:=.agg (rM 6 0 ⟨#[]⟩ ⟨#[]⟩ sa fs.length scp)) (by simp[results,results127,go_sem,y0,y1,y2,y3,y4]) rfl (XN HRD2 rfl rfl rfl rfl HGU HOU)
theorem aP9(B:Nat)(a b:UInt8)(r:List UInt8)(w:fV)(h:iL w B (a::b::r))(hs:r.length<=1048576)(hop:a.toNat*256+b.toNat=1):
  f_ Vh 127 #[p_ B] w fun ee w'=>WA (a::b::r) B w ee w':=by
 have hB:=h.lt
 have HS0:=M0 (TS.start h)
 have HW:=M0 (jo B a b r _ HS0.D8 (by simp only[aj,maxLen];omega))
 rw[Xl a b _ hop]at HW
 clear h
 go_enter func127,ntmps127
 go_wp2_with fail
 refine HW.mono ?_
 rintro ee w1 ⟨rfl,r1,g1⟩
 have HS1:=M0 (HS0.next hB r1 g1)
 clear r1 g1 HW HS0
 have v0:=HS1.cell 0
 have v0f:=HS1.free 0
 simp only[bC,eU]at v0
 have HS2:=M0 (HS1.set hB 0 (Vb Ve 1))
 obtain⟨W2,hW2⟩:∃W2,W2=w1.setCell (a_ (w.heap.size+1) 0) (Vb Ve 1):=⟨_,rfl⟩
 rw[<-hW2]at HS2
 have v1:(w1.setCell (a_ (w.heap.size+1) 0) (Vb Ve 1)).cell? (a_ (w.heap.size+1) 0)=some (Vb Ve 1):=by rw[<-hW2];exact HS2.cell 0
 have HW2:=M0 hW2
 clear hW2 HS1
 cases hc1:cut r with
 |none=>
  have hrd:U5 (a::b::r)=(2,.zero):=by rw[WB,hop];unfold ZU;simp[hc1]
  have HG:=M0 (XF B r W2 HS2.D8 hc1)
  go_wp2_with fail
  rw[<-gB HW2]
  refine HG.mono ?_
  rintro ee wz ⟨rfl,gz⟩
  exact⟨rfl,Wo hrd (by decide) (gH HS2.grown gz)⟩
 |some p1=>
  obtain⟨n,r1⟩:=p1
  have hl1:n.length+1+r1.length<=r.length:=by have:=uA hc1;omega
  by_cases hn:iM n=true
  rotate_left
  ·have hn':iM n=false:=by simpa using hn
   have hrd:U5 (a::b::r)=(2,.zero):=by rw[WB,hop];unfold ZU;simp[hc1,hn']
   have HG:=M0 (XY B r n r1 W2 HS2.D8 (by omega) hc1 hn')
   go_wp2_with fail
   rw[<-gB HW2]
   refine HG.mono ?_
   rintro ee wz ⟨rfl,gz⟩
   exact⟨rfl,Wo hrd (by decide) (gH HS2.grown gz)⟩
  have HG:=M0 (Yn B r n r1 W2 HS2.D8 (by omega) hc1 hn)
  obtain⟨ns,hns⟩:∃s:ByteArray,s=⟨n.toArray⟩:=⟨_,rfl⟩
  rw[<-hns]at HG
  have HNS:=M0 hns
  have HC1:=M0 hc1
  have HN:=M0 hn
  clear hns hc1 hn
  go_wp2_with fail
  rw[<-gB HW2]
  refine HG.mono ?_
  rintro ee w3 ⟨rfl,r3,g3⟩
  have HS3:=M0 (HS2.next hB r3 g3)
  clear r3 g3 HG HW2 HS2 v0 v0f v1
  have fq2:w3.cell? (a_ (w.heap.size+1) 2)=some (.string ⟨#[]⟩):=HS3.cell 2
  have fq2f:=HS3.free 2
  obtain⟨W4,hW4⟩:∃u,u=w3.setCell (a_ (w.heap.size+1) 2) (.string ns):=⟨_,rfl⟩
  have HS4:=M0 (HS3.set hB 2 (.string ns))
  rw[<-hW4]at HS4
  have HW4:=M0 hW4
  clear hW4
  cases hc2:cut r1 with
  |none=>
   have hrd:U5 (a::b::r)=(2,.zero):=by rw[WB,hop];unfold ZU;simp[gB HC1,gB HN,hc2]
   have HG:=M0 (ad9 B r1 W4 HS4.D8 hc2)
   go_wp2_with fail
   rw[<-gB HW4]
   refine HG.mono ?_
   rintro ee wz ⟨rfl,gz⟩
   exact⟨rfl,Wo hrd (by decide) (gH HS4.grown gz)⟩
  |some p2=>
   obtain⟨mo,r2⟩:=p2
   have hl2:mo.length+1+r2.length<=r1.length:=by have:=uA hc2;omega
   by_cases hmo:(pg mo==Qy)=true
   rotate_left
   ·have hmo':(pg mo==Qy)=false:=by simpa using hmo
    have hmo2:pg mo≠Qy:=by simpa using hmo'
    have hrd:U5 (a::b::r)=(2,.zero):=by rw[WB,hop];unfold ZU;simp[gB HC1,gB HN,hc2,hmo2]
    have HG:=M0 (af7 B r1 mo r2 W4 HS4.D8 (by omega) hc2 hmo')
    clear hmo hmo' hmo2
    go_wp2_with fail
    rw[<-gB HW4]
    refine HG.mono ?_
    rintro ee wz ⟨rfl,gz⟩
    exact⟨rfl,Wo hrd (by decide) (gH HS4.grown gz)⟩
   have HG:=M0 (aj8 B r1 mo r2 W4 HS4.D8 (by omega) hc2 hmo)
   have HMO:Hid (pg mo=Qy):=M0 (by simpa using hmo)
   obtain⟨ms,hms⟩:∃s:ByteArray,s=⟨mo.toArray⟩:=⟨_,rfl⟩
   rw[<-hms]at HG
   have HC2:=M0 hc2
   clear hms hmo hc2
   go_wp2_with fail
   rw[<-gB HW4]
   refine HG.mono ?_
   rintro ee w5 ⟨rfl,r5,g5⟩
   have HS5:=M0 (HS4.next hB r5 g5)
   clear r5 g5 HG HW4 HS4 fq2 fq2f HS3
   have HG:=M0 (YV B r2 w5 HS5.D8 (by omega))
   have hvl:=HS5.vlt
   cases hfl:Qr r2 with
   |none=>
    have hrd:U5 (a::b::r)=(2,.zero):=by rw[WB,hop];unfold ZU;simp[gB HC1,gB HN,gB HC2,gB HMO,hfl]
    go_wp2_with fail
    skip
    refine HG.mono ?_
    rintro ee wz ⟨gz,hz⟩
    rw[hfl]at hz
    subst hz
    exact⟨rfl,Wo hrd (by decide) (gH HS5.grown gz)⟩
   |some fs=>
    have hrd:U5 (a::b::r)=(0,⟨1,0,n,[],fs⟩):=by rw[WB,hop];unfold ZU;simp[gB HC1,gB HN,gB HC2,gB HMO,hfl]
    have HRD2:=M0 hrd
    have HFL:=M0 hfl
    clear hrd hfl
    go_wp2_with fail
    skip
    refine HG.mono ?_
    rintro ee w7 ⟨g7,hz⟩
    rw[gB HFL]at hz
    obtain⟨r7,v,rfl,hown⟩:=hz
    obtain⟨sa,scp,rfl⟩:=ib hown
    have HS7:=M0 (HS5.next hB r7 g7)
    have HOW:=M0 hown
    have HVL:=M0 hvl
    clear r7 g7 hown hvl HG
    have fq4:w7.cell? (a_ (w.heap.size+1) 4)=some (.slice none 0 0):=HS7.cell 4
    have fq4f:=HS7.free 4
    obtain⟨W8,hW8⟩:∃u,u=w7.setCell (a_ (w.heap.size+1) 4) (.slice sa fs.length scp):=⟨_,rfl⟩
    have HS8:=M0 (HS7.set hB 4 (.slice sa fs.length scp))
    rw[<-hW8]at HS8
    have HW8:=M0 hW8
    clear hW8
    have HO8:Hid (W8.ownsRow (w.heap.size+1) 146 2 (.slice sa fs.length scp) fs.length (Rf fs)):=M0 (by
     rw[gB HW8]
     refine nT (VC HOW (by have:=gB HVL;show w.heap.size+1<_;omega) _) (by have:=gB HVL;omega))
    obtain⟨sq,hsq⟩:∃s:ByteArray,s=⟨([]:List UInt8).toArray⟩:=⟨_,rfl⟩
    have hrc0:=Vm HS8.D8
    rw[<-hsq]at hrc0
    have hrc:(w7.setCell (a_ (w.heap.size+1) 4) (.slice sa fs.length scp)).cell? (a_ B 0)=some (.string sq):=by rw[<-gB HW8];exact hrc0
    have hie:sq.toList.isEmpty=true:=by rw[Vw,hsq];rfl
    clear hsq hrc0
    have c0:(w7.setCell (a_ (w.heap.size+1) 4) (.slice sa fs.length scp)).cell? (a_ (w.heap.size+1) 0)=some (Vb Ve 1):=by rw[<-gB HW8];exact HS8.cell 0
    have c1:(w7.setCell (a_ (w.heap.size+1) 4) (.slice sa fs.length scp)).cell? (a_ (w.heap.size+1) 1)=some (Vb Ve 0):=by rw[<-gB HW8];exact HS8.cell 1
    have c2:(w7.setCell (a_ (w.heap.size+1) 4) (.slice sa fs.length scp)).cell? (a_ (w.heap.size+1) 2)=some (.string ns):=by rw[<-gB HW8];exact HS8.cell 2
    have c3:(w7.setCell (a_ (w.heap.size+1) 4) (.slice sa fs.length scp)).cell? (a_ (w.heap.size+1) 3)=some (.string ⟨#[]⟩):=by rw[<-gB HW8];exact HS8.cell 3
    have c4:(w7.setCell (a_ (w.heap.size+1) 4) (.slice sa fs.length scp)).cell? (a_ (w.heap.size+1) 4)=some (.slice sa fs.length scp):=by rw[<-gB HW8];exact HS8.cell 4
    have p0:(w7.setCell (a_ (w.heap.size+1) 4) (.slice sa fs.length scp)).cell? (a_ w.heap.size 0)=some (Vb Ve 0):=by rw[<-gB HW8];exact HS8.Wp 0
    have p1:(w7.setCell (a_ (w.heap.size+1) 4) (.slice sa fs.length scp)).cell? (a_ w.heap.size 1)=some (Vb Ve 0):=by rw[<-gB HW8];exact HS8.Wp 1
    have p2:(w7.setCell (a_ (w.heap.size+1) 4) (.slice sa fs.length scp)).cell? (a_ w.heap.size 2)=some (.string ⟨#[]⟩):=by rw[<-gB HW8];exact HS8.Wp 2
    have p3:(w7.setCell (a_ (w.heap.size+1) 4) (.slice sa fs.length scp)).cell? (a_ w.heap.size 3)=some (.string ⟨#[]⟩):=by rw[<-gB HW8];exact HS8.Wp 3
    have p4:(w7.setCell (a_ (w.heap.size+1) 4) (.slice sa fs.length scp)).cell? (a_ w.heap.size 4)=some (.slice none 0 0):=by rw[<-gB HW8];exact HS8.Wp 4
    have pf:∀j,(w7.setCell (a_ (w.heap.size+1) 4) (.slice sa fs.length scp)).frozen? (a_ w.heap.size j)=false:=by rw[<-gB HW8];exact HS8.af1
    obtain⟨U,hU⟩:∃U,U=((((W8.setCell (a_ w.heap.size 0) (Vb Ve 1)).setCell (a_ w.heap.size 1) (Vb Ve 0)).setCell (a_ w.heap.size 2) (.string ns)).setCell (a_ w.heap.size 3) (.string ⟨#[]⟩)).setCell (a_ w.heap.size 4) (.slice sa fs.length scp):=⟨_,rfl⟩
    have hu:U.heap[w.heap.size]?=some (.cells (rM 1 0 ns ⟨#[]⟩ sa fs.length scp) 96 (0,0)):=by rw[hU];exact XU _ _ _ _ _ _ _ _ _ _ HS8.res
    have y0:U.cell? (a_ w.heap.size 0)=some (Vb Ve 1):=dh U _ 0 _ _ _ hu
    have y1:U.cell? (a_ w.heap.size 1)=some (Vb Ve 0):=dh U _ 1 _ _ _ hu
    have y2:U.cell? (a_ w.heap.size 2)=some (.string ns):=dh U _ 2 _ _ _ hu
    have y3:U.cell? (a_ w.heap.size 3)=some (.string ⟨#[]⟩):=dh U _ 3 _ _ _ hu
    have y4:U.cell? (a_ w.heap.size 4)=some (.slice sa fs.length scp):=dh U _ 4 _ _ _ hu
    have hgU:w.grownBy U (some B):=by
     rw[hU]
     iterate 5 refine KM ?_ (YQ _ _ _) (fun k hk=>by obtain rfl:=aU hk;exact ai _)
     exact HS8.grown
    have hoU:U.ownsRow w.heap.size 146 2 (.slice sa fs.length scp) fs.length (Rf fs):=by
     rw[hU]
     refine nT (b:=w.heap.size+1) ?_ (by omega)
     iterate 5 refine VC ?_ (by show w.heap.size<_;omega) _
     exact(gB HO8)
    have HU:=M0 (show U=(((((w7.setCell (a_ (w.heap.size+1) 4) (.slice sa fs.length scp)).setCell (a_ w.heap.size 0) (Vb Ve 1)).setCell (a_ w.heap.size 1) (Vb Ve 0)).setCell (a_ w.heap.size 2) (.string ns)).setCell (a_ w.heap.size 3) (.string ⟨#[]⟩)).setCell (a_ w.heap.size 4) (.slice sa fs.length scp)by rw[<-gB HW8];exact hU)
    have HGU:=M0 hgU
    have HOU:=M0 hoU
    clear hU hu hgU hoU
    go_wp2_with fail
    refine(oo _ _).mono ?_
    rintro _ wz ⟨rfl,hwz⟩
    obtain rfl:=hwz.symm
    go_wp2
    rw[<-gB HU]
    exact Vl (v:=.agg (rM 1 0 ns ⟨#[]⟩ sa fs.length scp)) (by simp[results,results127,go_sem,y0,y1,y2,y3,y4]) rfl (XN HRD2 rfl rfl HNS rfl HGU HOU)
theorem aQ2(B:Nat)(a b:UInt8)(r:List UInt8)(w:fV)(h:iL w B (a::b::r))(hs:r.length<=1048576)(k:Nat)(hop:a.toNat*256+b.toNat=k)(hno:k≠1/\k≠6/\k≠3/\k≠5/\k≠4):
  f_ Vh 127 #[p_ B] w fun ee w'=>WA (a::b::r) B w ee w':=by
 obtain⟨n1,n6,n3,n5,n4⟩:=hno
 have hrd:U5 (a::b::r)=(2,.zero):=by rw[WB,hop];unfold ZU;simp[n1,n6,n3,n5,n4]
 have HRD2:=M0 hrd
 have hB:=h.lt
 have HS0:=M0 (TS.start h)
 have HW:=M0 (jo B a b r _ HS0.D8 (by simp only[aj,maxLen];omega))
 rw[Xl a b _ hop]at HW
 obtain⟨x,hx⟩:∃x:Int,x=(k:Int):=⟨_,rfl⟩
 rw[<-hx]at HW
 have q1:(x==1)=false:=by simp;omega
 have q6:(x==6)=false:=by simp;omega
 have q3:(x==3)=false:=by simp;omega
 have q5:(x==5)=false:=by simp;omega
 have q4:(x==4)=false:=by simp;omega
 clear h hrd hx n1 n6 n3 n5 n4
 go_enter func127,ntmps127
 go_wp2_with fail
 refine HW.mono ?_
 rintro ee w1 ⟨rfl,r1,g1⟩
 have HS1:=M0 (HS0.next hB r1 g1)
 clear r1 g1 HW HS0
 have v0:=HS1.cell 0
 have v0f:=HS1.free 0
 simp only[bC,eU]at v0
 have HS2:=M0 (HS1.set hB 0 (Vb Ve x))
 obtain⟨W2,hW2⟩:∃W2,W2=w1.setCell (a_ (w.heap.size+1) 0) (Vb Ve x):=⟨_,rfl⟩
 rw[<-hW2]at HS2
 have v1:(w1.setCell (a_ (w.heap.size+1) 0) (Vb Ve x)).cell? (a_ (w.heap.size+1) 0)=some (Vb Ve x):=by rw[<-hW2];exact HS2.cell 0
 have HW2:=M0 hW2
 clear hW2 HS1
 go_wp2
 exact⟨rfl,Wo HRD2 (by decide) (by rw[<-gB HW2];exact HS2.grown)⟩
theorem ag1(B:Nat)(l:List UInt8)(w:fV)(h:iL w B l)(hl:l.length<2):
  f_ Vh 127 #[p_ B] w fun ee w'=>WA l B w ee w':=by
 have hrd:U5 l=(1,.zero):=by unfold U5;rw[ay hl]
 have HS0:=M0 (TS.start h)
 have HW:=M0 (DV B l _ HS0.D8 hl)
 clear h
 go_enter func127,ntmps127
 go_wp2_with fail
 refine HW.mono ?_
 rintro ee wz ⟨rfl,hwz⟩
 exact⟨rfl,Wo hrd (by decide) (by rw[hwz];exact HS0.grown)⟩
theorem aE7(B:Nat)(l:List UInt8)(w:fV)(h:iL w B l)(hl:l.length<=1048576):
  f_ Vh 127 #[p_ B] w fun ee w'=>WA l B w ee w':=by
 match l,h,hl with
 |[],h,_=>exact ag1 B [] w h (by simp)
 |[x],h,_=>exact ag1 B [x] w h (by simp)
 |a::b::r,h,hl=>
  have hs:r.length<=1048576:=by simp only[aj]at hl;omega
  by_cases h1:a.toNat*256+b.toNat=1
  ·exact aP9 B a b r w h hs h1
  by_cases h6:a.toNat*256+b.toNat=6
  ·exact aP7 B a b r w h hs h6
  by_cases h3:a.toNat*256+b.toNat=3
  ·exact aP0 B a b r w h hs h3
  by_cases h5:a.toNat*256+b.toNat=5
  ·exact aP2 B a b r w h hs h5
  by_cases h4:a.toNat*256+b.toNat=4
  ·exact aO6 B a b r w h hs h4
  exact aQ2 B a b r w h hs _ rfl ⟨h1,h6,h3,h5,h4⟩
end Tf
namespace TfR
open Bs Rd
open gP (gD gM gI jk iP iG jE)
def IE(n:Nat)(xs:List Value)(w:fV)(mk:Option Addr->Nat->Value)(ee:Ending)(w':fV):Prop:=
 ∃sa sc,ee=.returned (mk sa sc)/\w'.ownsRow w.heap.size 146 2 (.slice sa n sc) n xs/\gm w.heap.size w w'
theorem Zy{w:fV}{g:Nat}{t:TypeId}(b0 b1 b2 b3 b4 v0 v1 v2 v3 v4:Value)(h:w.heap[g]?=some (.cells #[b0,b1,b2,b3,b4] t (0,0))):
  (((((w.setCell (a_ g 0) v0).setCell (a_ g 1) v1).setCell (a_ g 2) v2).setCell (a_ g 3) v3).setCell (a_ g 4) v4).heap[g]?=some (.cells #[v0,v1,v2,v3,v4] t (0,0)):=by
 have h0:(w.setCell (a_ g 0) v0).heap[g]?=some (.cells #[v0,b1,b2,b3,b4] t (0,0)):=gI h 0 v0
 have h1:((w.setCell (a_ g 0) v0).setCell (a_ g 1) v1).heap[g]?=some (.cells #[v0,v1,b2,b3,b4] t (0,0)):=gI h0 1 v1
 have h2:(((w.setCell (a_ g 0) v0).setCell (a_ g 1) v1).setCell (a_ g 2) v2).heap[g]?=some (.cells #[v0,v1,v2,b3,b4] t (0,0)):=gI h1 2 v2
 have h3:((((w.setCell (a_ g 0) v0).setCell (a_ g 1) v1).setCell (a_ g 2) v2).setCell (a_ g 3) v3).heap[g]?=some (.cells #[v0,v1,v2,v3,b4] t (0,0)):=gI h2 3 v3
 have h4:(((((w.setCell (a_ g 0) v0).setCell (a_ g 1) v1).setCell (a_ g 2) v2).setCell (a_ g 3) v3).setCell (a_ g 4) v4).heap[g]?=some (.cells #[v0,v1,v2,v3,v4] t (0,0)):=gI h3 4 v4
 exact h4
theorem kT(p:Addr)(w:fV):
  CallsD Vh 162 #[.pointer (some p)] .returning w fun e u' w'=>e=.returned (.tuple #[])/\u'=.returning/\w'=w:=by
 refine VE func162 rfl fun c₀ cs hu=> ?_
 apply VV
 apply VM
 simp[wpOpsS,go_sem,recoverD,hu,ntmps162,Exit.thenS]
 refine VP ?_
 change Code.wp _ _ _ {tmps:=#[.pointer (some p),.nilIface,.nilIface,undef,undef,undef,undef],defers:=[]} _
 go_wp2
 cases c₀
 simp_all[bodyPostS,results,results162]
theorem blocks{w w1 W:fV}{s:ByteArray}(g:W.grownBy w1 (some (w.heap.size+1+1)))(hW:W=((w.alloc (.cells zM_ 96)).alloc (.cells #[Vb Vg 0] 26)).alloc (.cells #[.string s] 166)):
  w1.heap[w.heap.size]?=some (.cells zM_ 96 (0,0))/\w1.heap[w.heap.size+1]?=some (.cells #[Vb Vg 0] 26 (0,0)):=by
 have z2:((w.alloc (.cells zM_ 96)).alloc (.cells #[Vb Vg 0] 26)).heap.size=w.heap.size+1+1:=by simp
 have z1:(w.alloc (.cells zM_ 96)).heap.size=w.heap.size+1:=by simp
 have e0:W.heap[w.heap.size]?=some (.cells zM_ 96 (0,0)):=by
  rw[hW,Vi _ _ _ (by omega),Vi _ _ _ (by omega)];exact G8 w _
 have e1:W.heap[w.heap.size+1]?=some (.cells #[Vb Vg 0] 26 (0,0)):=by
  rw[hW,Vi _ _ _ (by omega)]
  have q:=G8 (w.alloc (.cells zM_ 96)) (.cells #[Vb Vg 0] 26)
  rw[z1]at q
  exact q
 exact⟨(g.block _ (Vj e0) (fun q=>by simp at q;omega)).trans e0,(g.block _ (Vj e1) (fun q=>by simp at q)).trans e1⟩
theorem nK(s:ByteArray)(a0 a1:Int)(a2 a3:ByteArray)(sn:Nat)(xs:List Value)(w:fV)
  (hR:∀u B,iL u B s.data.toList->(∀b o,b<w.heap.size->u.cell? (a_ b o)=w.cell? (a_ b o))->f_ Vh 127 #[p_ B] u fun ee w'=>(∃sa sc,ee=.returned (.agg (rM a0 a1 a2 a3 sa sn sc))/\w'.ownsRow u.heap.size 146 2 (.slice sa sn sc) sn xs)/\u.grownBy w' (some B)):
  f_ Vh 126 #[.string s,.func (.func 127) #[] #[]] w fun ee w'=>IE sn xs w (fun sa sc=>.tuple #[.agg (rM a0 a1 a2 a3 sa sn sc),Vb Vg 0]) ee w':=by
 have hmf:∀(fn:Fn) (first cap:Array Value) (w:fV),(Instr.makeFunc fn first cap).run Vh w=.ok (.func fn first cap) w:=fun _ _ _ _=>rfl
 have HR:=M0 hR
 clear hR
 go_enter_defers func126,ntmps126
 go_wp2_with fail
 refine(HR _ _ (iG _ _ s (by simp)) (fun b o hb=>((((R9 _ w).alloc (ai _) _).alloc (by simp) _).alloc (by simp;omega) _).cell (p:=(a_ b o)) hb)).mono ?_
 rintro ee w1 ⟨⟨sa,sc,rfl,ho⟩,g1⟩
 obtain⟨hr,he⟩:=blocks g1 rfl
 have d0:w1.cell? (a_ w.heap.size 0)=some (Vb Ve 0):=gD hr rfl
 have d1:w1.cell? (a_ w.heap.size 1)=some (Vb Ve 0):=gD hr rfl
 have d2:w1.cell? (a_ w.heap.size 2)=some (.string ⟨#[]⟩):=gD hr rfl
 have d3:w1.cell? (a_ w.heap.size 3)=some (.string ⟨#[]⟩):=gD hr rfl
 have d4:w1.cell? (a_ w.heap.size 4)=some (.slice none 0 0):=gD hr rfl
 have fr:=gM hr
 have hc:=Vm he
 have hf:=Vy he
 have HB:=M0 (jk g1 ((((R9 _ w).alloc (ai _) _).alloc (by simp) _).alloc (by simp;omega) _) (by omega))
 obtain⟨U,hU⟩:∃U,U=((((((w1.setCell (a_ w.heap.size 0) (Vb Ve a0)).setCell (a_ w.heap.size 1) (Vb Ve a1)).setCell (a_ w.heap.size 2) (.string a2)).setCell (a_ w.heap.size 3) (.string a3)).setCell (a_ w.heap.size 4) (.slice sa sn sc)).setCell (a_ (w.heap.size+1) 0) (Vb Vg 0)):=⟨_,rfl⟩
 have hu:U.heap[w.heap.size]?=some (.cells (rM a0 a1 a2 a3 sa sn sc) 96 (0,0)):=by
  rw[hU,R8 _ _ _ _ (by simp)]
  exact Zy _ _ _ _ _ _ _ _ _ _ hr
 have u0:U.cell? (a_ w.heap.size 0)=some (Vb Ve a0):=gD hu rfl
 have u1:U.cell? (a_ w.heap.size 1)=some (Vb Ve a1):=gD hu rfl
 have u2:U.cell? (a_ w.heap.size 2)=some (.string a2):=gD hu rfl
 have u3:U.cell? (a_ w.heap.size 3)=some (.string a3):=gD hu rfl
 have u4:U.cell? (a_ w.heap.size 4)=some (.slice sa sn sc):=gD hu rfl
 have hv:U.heap[w.heap.size+1]?=some (.cells #[Vb Vg 0] 26 (0,0)):=by
  rw[hU]
  refine VR (v:=Vb Vg 0) ?_
  rw[R8 _ _ _ _ (by simp),R8 _ _ _ _ (by simp),R8 _ _ _ _ (by simp),R8 _ _ _ _ (by simp),R8 _ _ _ _ (by simp)]
  exact he
 have HBU:Hid (gm w.heap.size w U):=by
  show gm w.heap.size w U
  rw[hU]
  refine VT ?_ (by simp) _
  iterate 5 refine iP ?_
  exact HB
 have HOU:Hid (U.ownsRow w.heap.size 146 2 (.slice sa sn sc) sn xs):=by
  show U.ownsRow w.heap.size 146 2 (.slice sa sn sc) sn xs
  rw[hU]
  refine Tf.nT (b:=w.heap.size+3) ?_ (by omega)
  iterate 6 refine VC ?_ (by first|(show w.heap.size<_;omega)|(show w.heap.size+1<_;omega)) _
  exact Tf.nT ho (by simp)
 have uv:=Vm hv
 have HU:=M0 hU
 clear g1 hr he hu hv hU ho
 go_wp2
 rw[<-gB HU]
 clear HU d0 d1 d2 d3 d4 hc hf fr
 refine VF (f:=162) (args:=#[p_ (w.heap.size+1)]) (by simp) (by simp[go_sem]) ?_
 refine(kT (a_ (w.heap.size+1) 0) _).mono ?_
 rintro e u' w'' ⟨rfl,rfl,rfl⟩
 simp[Leaves,settle,results,results126,go_sem,u0,u1,u2,u3,u4,uv]
 exact⟨sa,sc,rfl,HOU,HBU⟩
theorem Hl(s:ByteArray)(a0 a1:Int)(a2 a3:ByteArray)(sn:Nat)(xs:List Value)(w:fV)
  (hR:∀u:fV,f_ Vh 126 #[.string s,.func (.func 127) #[] #[]] u fun ee w'=>IE sn xs u (fun sa sc=>.tuple #[.agg (rM a0 a1 a2 a3 sa sn sc),Vb Vg 0]) ee w'):
  f_ Vh 71 #[.string s] w fun ee w'=>IE sn xs w (fun sa sc=>.tuple #[.agg (rM a0 a1 a2 a3 sa sn sc),Vb Vg 0]) ee w':=by
 have HR:=M0 hR
 clear hR
 go_enter func71,ntmps71
 go_wp2_with fail
 refine(HR _).mono ?_
 rintro ee w1 ⟨sa,sc,rfl,ho,hb⟩
 have hr:w1.heap[w.heap.size]?=some (.cells zM_ 96 (0,0)):=(hb.block _ (by simp)).trans (G8 w _)
 have d0:w1.cell? (a_ w.heap.size 0)=some (Vb Ve 0):=gD hr rfl
 have d1:w1.cell? (a_ w.heap.size 1)=some (Vb Ve 0):=gD hr rfl
 have d2:w1.cell? (a_ w.heap.size 2)=some (.string ⟨#[]⟩):=gD hr rfl
 have d3:w1.cell? (a_ w.heap.size 3)=some (.string ⟨#[]⟩):=gD hr rfl
 have d4:w1.cell? (a_ w.heap.size 4)=some (.slice none 0 0):=gD hr rfl
 have fr:=gM hr
 have HB:Hid (gm w.heap.size w w1):=M0 (((R9 _ w).alloc (ai _) _).trans (hb.mono (by simp)))
 obtain⟨U,hU⟩:∃U,U=(((((w1.setCell (a_ w.heap.size 0) (Vb Ve a0)).setCell (a_ w.heap.size 1) (Vb Ve a1)).setCell (a_ w.heap.size 2) (.string a2)).setCell (a_ w.heap.size 3) (.string a3)).setCell (a_ w.heap.size 4) (.slice sa sn sc)):=⟨_,rfl⟩
 have hu:U.heap[w.heap.size]?=some (.cells (rM a0 a1 a2 a3 sa sn sc) 96 (0,0)):=by
  rw[hU]
  exact Zy _ _ _ _ _ _ _ _ _ _ hr
 have u0:U.cell? (a_ w.heap.size 0)=some (Vb Ve a0):=gD hu rfl
 have u1:U.cell? (a_ w.heap.size 1)=some (Vb Ve a1):=gD hu rfl
 have u2:U.cell? (a_ w.heap.size 2)=some (.string a2):=gD hu rfl
 have u3:U.cell? (a_ w.heap.size 3)=some (.string a3):=gD hu rfl
 have u4:U.cell? (a_ w.heap.size 4)=some (.slice sa sn sc):=gD hu rfl
 have HBU:Hid (gm w.heap.size w U):=by
  show gm w.heap.size w U
  rw[hU]
  iterate 5 refine iP ?_
  exact HB
 have HOU:Hid (U.ownsRow w.heap.size 146 2 (.slice sa sn sc) sn xs):=by
  show U.ownsRow w.heap.size 146 2 (.slice sa sn sc) sn xs
  rw[hU]
  refine Tf.nT (b:=w.heap.size+1) ?_ (by omega)
  iterate 5 refine VC ?_ (by show w.heap.size<_;omega) _
  exact Tf.nT ho (by simp)
 have HU:=M0 hU
 clear hr hu hU hb HR ho
 go_wp2
 rw[<-gB HU]
 clear HU d0 d1 d2 d3 d4 fr
 exact Vl (v:=.tuple #[.agg (rM a0 a1 a2 a3 sa sn sc),Vb Vg 0]) (by simp[results,results71,go_sem,u0,u1,u2,u3,u4]) rfl ⟨sa,sc,rfl,HOU,HBU⟩
theorem Yq(s:ByteArray)(a0 a1:Int)(a2 a3:ByteArray)(sn:Nat)(xs:List Value)(w:fV)
  (hR:∀u:fV,f_ Vh 71 #[.string s] u fun ee w'=>IE sn xs u (fun sa sc=>.tuple #[.agg (rM a0 a1 a2 a3 sa sn sc),Vb Vg 0]) ee w'):
  f_ Vh 41 #[.string s] w fun ee w'=>IE sn xs w (fun sa sc=>.tuple #[.agg (rM a0 a1 a2 a3 sa sn sc),Vb Vg 0]) ee w':=by
 have HR:=M0 hR
 clear hR
 go_enter func41,ntmps41
 go_wp2_with fail
 refine(HR _).mono ?_
 rintro ee w1 ⟨sa,sc,rfl,ho,hb⟩
 have hr:w1.heap[w.heap.size]?=some (.cells zM_ 96 (0,0)):=(hb.block _ (by simp)).trans (G8 w _)
 have d0:w1.cell? (a_ w.heap.size 0)=some (Vb Ve 0):=gD hr rfl
 have d1:w1.cell? (a_ w.heap.size 1)=some (Vb Ve 0):=gD hr rfl
 have d2:w1.cell? (a_ w.heap.size 2)=some (.string ⟨#[]⟩):=gD hr rfl
 have d3:w1.cell? (a_ w.heap.size 3)=some (.string ⟨#[]⟩):=gD hr rfl
 have d4:w1.cell? (a_ w.heap.size 4)=some (.slice none 0 0):=gD hr rfl
 have fr:=gM hr
 have HB:Hid (gm w.heap.size w w1):=M0 (((R9 _ w).alloc (ai _) _).trans (hb.mono (by simp)))
 obtain⟨U,hU⟩:∃U,U=(((((w1.setCell (a_ w.heap.size 0) (Vb Ve a0)).setCell (a_ w.heap.size 1) (Vb Ve a1)).setCell (a_ w.heap.size 2) (.string a2)).setCell (a_ w.heap.size 3) (.string a3)).setCell (a_ w.heap.size 4) (.slice sa sn sc)):=⟨_,rfl⟩
 have hu:U.heap[w.heap.size]?=some (.cells (rM a0 a1 a2 a3 sa sn sc) 96 (0,0)):=by
  rw[hU]
  exact Zy _ _ _ _ _ _ _ _ _ _ hr
 have u0:U.cell? (a_ w.heap.size 0)=some (Vb Ve a0):=gD hu rfl
 have u1:U.cell? (a_ w.heap.size 1)=some (Vb Ve a1):=gD hu rfl
 have u2:U.cell? (a_ w.heap.size 2)=some (.string a2):=gD hu rfl
 have u3:U.cell? (a_ w.heap.size 3)=some (.string a3):=gD hu rfl
 have u4:U.cell? (a_ w.heap.size 4)=some (.slice sa sn sc):=gD hu rfl
 have HBU:Hid (gm w.heap.size w U):=by
  show gm w.heap.size w U
  rw[hU]
  iterate 5 refine iP ?_
  exact HB
 have HOU:Hid (U.ownsRow w.heap.size 146 2 (.slice sa sn sc) sn xs):=by
  show U.ownsRow w.heap.size 146 2 (.slice sa sn sc) sn xs
  rw[hU]
  refine Tf.nT (b:=w.heap.size+1) ?_ (by omega)
  iterate 5 refine VC ?_ (by show w.heap.size<_;omega) _
  exact Tf.nT ho (by simp)
 have HU:=M0 hU
 clear hr hu hU hb HR ho
 go_wp2
 rw[<-gB HU]
 clear HU d0 d1 d2 d3 d4 fr
 exact Vl (v:=.tuple #[.agg (rM a0 a1 a2 a3 sa sn sc),Vb Vg 0]) (by simp[results,results41,go_sem,u0,u1,u2,u3,u4]) rfl ⟨sa,sc,rfl,HOU,HBU⟩
end TfR
namespace Sp
open Bs Rd Lt Ut
open Ip (lS uX kG jY JP Ls)
open Ud (kR si tC Ff uG)
open pQ (jL fold tN)
open Wt (uO qU)
theorem aq6(a b m:List UInt8)(n:Nat)(h:a.length=n):(a++b++m).take n=a:=by rw[bg,IB h]
theorem aq1(id ttl pr fr ta:Int)(load:ByteArray)(m:List UInt8):(Ls id ttl pr fr ta load++m).length=20+load.size+m.length:=by rw[ak,al5]
theorem aw0(id ttl pr fr ta:Int)(load:ByteArray)(m:List UInt8)(hl:load.size<=1480):w2 (Ls id ttl pr fr ta load++m) 2=20+(load.size:Int):=by
 have b2:w2 (Ls id ttl pr fr ta load++m) 2=256*((gJ ((20+(load.size:Int))/256)).toNat:Int)+((gJ (20+(load.size:Int))).toNat:Int):=rfl
 rw[lh,lh]at b2
 omega
theorem aA1(id ttl pr fr ta:Int)(load:ByteArray)(m:List UInt8)(ht:0<ttl/\ttl<=255)(hl:load.size<=1480):Co (Ls id ttl pr fr ta load++m)=0:=by
 have b0:bt (Ls id ttl pr fr ta load++m) 0=69:=rfl
 have b2:=aw0 id ttl pr fr ta load m hl
 have b6:w2 (Ls id ttl pr fr ta load++m) 6=256*((gJ (16384/256)).toNat:Int)+((gJ 16384).toNat:Int):=rfl
 have b8:bt (Ls id ttl pr fr ta load++m) 8=((gJ ttl).toNat:Int):=rfl
 rw[lh,lh]at b6
 rw[lh]at b8
 have tk:(Ls id ttl pr fr ta load++m).take 20=kG (20+load.size) id ttl pr fr ta (lS (kG (20+load.size) id ttl pr fr ta 0)):=aq6 _ _ m 20 (jY _ _ _ _ _ _ _)
 unfold Co
 rw[b0,b2,b6,b8,tk,aq1,ax (by omega),ax (by omega),ax (by omega),ax (by omega),ax (by omega),ax (fun q=>q (aj9 _ _ _ _ _ _)),ax (by omega),ax (by omega)]
theorem aJ9(id ttl pr fr ta:Int)(load:ByteArray)(m:List UInt8)(h:0<=id/\id<=65535):w2 (Ls id ttl pr fr ta load++m) 4=id:=by
 have b:w2 (Ls id ttl pr fr ta load++m) 4=256*((gJ (id/256)).toNat:Int)+((gJ id).toNat:Int):=rfl
 rw[lh,lh]at b
 omega
theorem aD2(id ttl pr fr ta:Int)(load:ByteArray)(m:List UInt8)(h:0<=ttl/\ttl<=255):bt (Ls id ttl pr fr ta load++m) 8=ttl:=by
 have b:bt (Ls id ttl pr fr ta load++m) 8=((gJ ttl).toNat:Int):=rfl
 rw[lh]at b
 omega
theorem aH0(id ttl pr fr ta:Int)(load:ByteArray)(m:List UInt8)(h:0<=pr/\pr<=255):bt (Ls id ttl pr fr ta load++m) 9=pr:=by
 have b:bt (Ls id ttl pr fr ta load++m) 9=((gJ pr).toNat:Int):=rfl
 rw[lh]at b
 omega
theorem aH8(id ttl pr fr ta:Int)(load:ByteArray)(m:List UInt8)(h:0<=fr/\fr<=4294967295):w4 (Ls id ttl pr fr ta load++m) 12=fr:=by
 have b:w4 (Ls id ttl pr fr ta load++m) 12=16777216*((gJ (fr/65536/256)).toNat:Int)+65536*((gJ (fr/65536)).toNat:Int)+256*((gJ (fr%65536/256)).toNat:Int)+((gJ (fr%65536)).toNat:Int):=rfl
 rw[lh,lh,lh,lh]at b
 omega
theorem aG7(id ttl pr fr ta:Int)(load:ByteArray)(m:List UInt8)(h:0<=ta/\ta<=4294967295):w4 (Ls id ttl pr fr ta load++m) 16=ta:=by
 have b:w4 (Ls id ttl pr fr ta load++m) 16=16777216*((gJ (ta/65536/256)).toNat:Int)+65536*((gJ (ta/65536)).toNat:Int)+256*((gJ (ta%65536/256)).toNat:Int)+((gJ (ta%65536)).toNat:Int):=rfl
 rw[lh,lh,lh,lh]at b
 omega
theorem aK7(id ttl pr fr ta:Int)(load:ByteArray)(m:List UInt8)(hl:load.size<=1480):((Ls id ttl pr fr ta load++m).drop 20).take ((w2 (Ls id ttl pr fr ta load++m) 2).toNat-20)=load.data.toList:=by
 rw[aw0 id ttl pr fr ta load m hl,Ls,bg,List.drop_left' (jY _ _ _ _ _ _ _),IB (by rw[jc];omega)]
theorem aq0(f t fr ta:Int)(load:ByteArray)(m:List UInt8):(uG f t fr ta load++m).length=8+load.size+m.length:=by rw[ak,YY]
theorem ay9(f t fr ta:Int)(load:ByteArray)(m:List UInt8)(hl:load.size<=1472):w2 (uG f t fr ta load++m) 4=8+(load.size:Int):=by
 have b:w2 (uG f t fr ta load++m) 4=256*((gJ ((8+(load.size:Int))/256)).toNat:Int)+((gJ (8+(load.size:Int))).toNat:Int):=rfl
 rw[lh,lh]at b
 omega
theorem aC1(f t fr ta:Int)(load:ByteArray)(m:List UInt8)(hl:load.size<=1472):BD (uG f t fr ta load++m) fr ta=0:=by
 have e4:=ay9 f t fr ta load m hl
 have tk:(uG f t fr ta load++m).take (8+(load.size:Int)).toNat=uG f t fr ta load:=IB (by rw[YY];omega)
 unfold BD
 rw[e4,aq0,tk,ax (by omega),ax (by omega),ax (by omega),ax (fun q=>q.2 (au2 f t fr ta load))]
theorem aM5(f t fr ta:Int)(load:ByteArray)(m:List UInt8)(h:0<=f/\f<=65535):w2 (uG f t fr ta load++m) 0=f:=by
 have b:w2 (uG f t fr ta load++m) 0=256*((gJ (f/256)).toNat:Int)+((gJ f).toNat:Int):=rfl
 rw[lh,lh]at b
 omega
theorem aM4(f t fr ta:Int)(load:ByteArray)(m:List UInt8)(h:0<=t/\t<=65535):w2 (uG f t fr ta load++m) 2=t:=by
 have b:w2 (uG f t fr ta load++m) 2=256*((gJ (t/256)).toNat:Int)+((gJ t).toNat:Int):=rfl
 rw[lh,lh]at b
 omega
theorem aI2(f t fr ta:Int)(load:ByteArray)(m:List UInt8)(hl:load.size<=1472):((uG f t fr ta load++m).drop 8).take ((w2 (uG f t fr ta load++m) 4).toNat-8)=load.data.toList:=by
 have e:uG f t fr ta load++m=(iy f++iy t++iy (8+load.size)++iy (Ff f t fr ta load))++(load.data.toList++m):=by rw[ap9,bg]
 rw[ay9 f t fr ta load m hl,e,List.drop_left' (show(iy f++iy t++iy (8+load.size)++iy (Ff f t fr ta load)).length=8 from rfl),IB (by rw[jc];omega)]
end Sp
end Go.Proofs.YtdgacidndknceaaGreatDoor
