import Derived.Test.YtbhbbeebncmaiaaGreatDoorMgZ04
import Derived.Deep.RegionHeld3
import Derived.Test.YtbhbbeebncmaiaaGreatDoorMgZ07
import Derived.Test.YtbhbbeebncmaiaaGreatDoorMgZ00
import Derived.Laws.StructEq
import Derived.ChangeKeysEq
import Derived.Laws.AppendOwnNone
import Derived.Deep.RegionLaw
import Derived.Lib.OwnKind
import Derived.Test.YtbhbbeebncmaiaaGreatDoorMgZ02
import Derived.Test.YtbhbbeebncmaiaaGreatDoorMgZ10
import Derived.Test.YtbhbbeebncmaiaaGreatDoorRows
import Derived.WalkKit
import Derived.ProofKit
import Derived.WalkSpells
import Derived.WalkLawsBesides
import Derived.Outline
import Derived.OneCell
import Derived.Laws.BitsAllLaws
import Derived.Deep.QuietTactic
import Derived.BigQuiet
import Derived.Deep.LoopGhost
namespace Go.Proofs.YtbhbbeebncmaiaaGreatDoor.Dh
open Go.ChangeShapes Go.WideShapes Go.ChangeAt Go.RowKit Bs
set_option linter.unusedVariables false
set_option linter.unusedSimpArgs false
theorem below_drewN {N:Nat} {a w:World} (h:Below N a w) (n:Nat):Below N a (w.drewN n):=⟨h.os,h.tape,h.output,h.size,h.block⟩
def cellsO (os:Opts):List Value:=os.flatMap fun o=>[.int .u8 o.1.toNat,.string ⟨o.2.toArray⟩]
theorem cellsO_length (os:Opts):(cellsO os).length=os.length*2:=by
 induction os with
 | nil=>rfl
 | cons o r ih=>simp only [cellsO,List.flatMap_cons,List.length_append,List.length_cons,List.length_nil] at ih ⊢; omega
theorem cellsO_append (a b:Opts):cellsO (a++b)=cellsO a++cellsO b:=by simp [cellsO]
theorem cellsO_get (os:Opts) (i:Nat) (h:i<os.length):(cellsO os)[i*2]?=some (.int .u8 os[i].1.toNat)∧(cellsO os)[i*2+1]?=some (.string ⟨os[i].2.toArray⟩):=by
 induction os generalizing i with
 | nil=>simp at h
 | cons o r ih =>
  cases i with
  | zero=>exact ⟨rfl,rfl⟩
  | succ i =>
   have:=ih i (by simpa using h)
   simp only [cellsO,List.flatMap_cons] at this ⊢
   rw [show (i+1)*2=i*2+1+1 by omega]
   simpa using this
theorem cellsO_one (os:Opts):∀ u ∈ cellsO os,u.oneCell'=true:=by
 intro u hu
 simp only [cellsO,List.mem_flatMap] at hu
 obtain ⟨o,_,ho⟩:=hu
 simp at ho
 rcases ho with rfl | rfl <;> rfl
theorem add_next (ad:Addr) (n:Nat):(⟨(ad.add n).block,(ad.add n).off+1,none⟩:Addr)=ad.add (n+1):=by
 unfold Addr.add
 by_cases h:n=0
 ·subst h; simp
 ·simp [h]; omega
theorem At.cells {w:World} {ad:Addr} {os:Opts} (h:At w (some ad) os):∀ j u,(cellsO os)[j]?=some u→w.cell? (ad.add j)=some u:=fun j u hj=>by
 have hl:=(List.getElem?_eq_some_iff.1 hj).1
 rw [cellsO_length] at hl
 obtain ⟨ad',e,h0,h1⟩:=h (j / 2) (by omega)
 obtain rfl:=Option.some.inj e
 obtain ⟨g0,g1⟩:=cellsO_get os (j / 2) (by omega)
 rcases Nat.mod_two_eq_zero_or_one j with e | e
 ·have e2:j / 2*2=j:=by omega
  rw [e2] at h0 g0
  rw [h0,← hj,g0]
 ·have e2:j / 2*2+1=j:=by omega
  rw [add_next,e2] at h1
  rw [e2] at g1
  rw [h1,← hj,g1]
theorem At.ofCells {w:World} {ad:Addr} {os:Opts} (h:∀ j u,(cellsO os)[j]?=some u→w.cell? (ad.add j)=some u):At w (some ad) os:=fun i hi=>by
 obtain ⟨g0,g1⟩:=cellsO_get os i hi
 exact ⟨ad,rfl,h _ _ g0,by rw [add_next]; exact h _ _ g1⟩

end Go.Proofs.YtbhbbeebncmaiaaGreatDoor.Dh
namespace Go.Proofs.YtbhbbeebncmaiaaGreatDoor.Dh
open Go.ChangeShapes Go.WideShapes Go.ChangeAt Go.RowKit Bs
open Rd (Rdr errP grown_trans grown_alloc grown_set grown_refl take_no take_ok byte_ok)
set_option linter.unusedVariables false
set_option linter.unusedSimpArgs false
theorem byte_no (B:Nat) (w:World) (h:Rdr w B []) :
  Calls Tryz.prog 249 #[.pointer (some ⟨B,0,none⟩)] w fun e w'=>e=.panicked (errP 1)∧w'=w:=by
 have HN:=hide (take_no B [] 1 w h (by simp))
 clear h
 go_enter Tryz.func249,Tryz.ntmps249
 go_wp2_with fail
 refine (unhide HN).mono ?_
 rintro e w1 ⟨rfl,rfl⟩
 exact ⟨rfl,rfl,rfl⟩
theorem infoOpt:(Tryz.prog.info? 151).map (fun i=>(i.zero,i.size,i.bytes))=some (some (.agg #[.int .u8 0,.string ⟨#[]⟩]),2,24):=by kernel_rfl

def OptsPost (l:List UInt8) (B:Nat) (w:World) (e:Ending) (w':World):Prop :=
 w.grownBy w' (some B)∧match pieces l with
  | none=>e=.panicked (errP 1)
  | some ps=>∃ v,e=.returned v∧w'.ownsRow w.heap.size 151 2 v ps.length (cellsO ps)

theorem own_kept {w w':World} {B base:Nat} {v:Value} {n:Nat} {xs:List Value} {t:TypeId} {z:Nat} (h:w.ownsRow base t z v n xs) (hg:w.grownBy w' (some B)) (hB:B<base):w'.ownsRow base t z v n xs :=
 h.kept hg (by
  cases hv:v.ownBlock with
  | none=>exact Or.inl rfl
  | some k=>refine Or.inr (fun e=>?_); have:=(h.lt k hv).1; obtain rfl:=Option.some.inj e; omega)
theorem own_slice {w:World} {b e z:Nat} {v:Value} {n:Nat} {xs:List Value} (h:w.ownsRow b e z v n xs):∃ ao cp,v=.slice ao n cp:=by
 rcases h.2 with ⟨rfl,rfl⟩ | ⟨g,cap,cur,rfl,_⟩
 ·exact ⟨_,_,rfl⟩
 ·exact ⟨_,_,rfl⟩

theorem grown_own {w wm w4:World} {B:Nat} {r:Option Nat} (h:w.grownBy wm (some B)) (hg:wm.grownBy w4 r) (hr:∀ k,r=some k→w.heap.size≤k):w.grownBy w4 (some B) :=
 ⟨hg.os.trans h.os,hg.tape.trans h.tape,hg.output.trans h.output,Nat.le_trans h.size hg.size,fun i hi hne=>(hg.block i (Nat.lt_of_lt_of_le hi h.size) (fun e=>by have:=hr i e.symm; omega)).trans (h.block i hi hne)⟩
theorem rdr_grown {w w4:World} {B:Nat} {l:List UInt8} {r:Option Nat} (h:Rdr w B l) (hg:w.grownBy w4 r) (hr:¬ r=some B):Rdr w4 B l:=by
 unfold Rdr
 rw [hg.block B h.lt (fun e=>hr e.symm)]
 exact h
theorem pieces_step (l z:List UInt8) (c n:UInt8) (ps:List Pc) (h:pieces l=(pieces (c::n::z)).map fun r=>ps++r) (e1:¬ c.toNat=255) (e2:¬ c.toNat=0) (e3:¬ z.length<n.toNat) :
  pieces l=(pieces (z.drop n.toNat)).map fun x=>(ps++[(c,z.take n.toNat)])++x:=by
 refine h.trans ((congrArg _ (pieces_more c n z e1 e2 e3)).trans ?_)
 generalize pieces (z.drop n.toNat)=o
 cases o with
 | none=>rfl
 | some x=>simp

set_option maxHeartbeats 2000000 in
theorem opts_any (B:Nat) (l:List UInt8) (w:World) (h:Rdr w B l) (hl:l.length≤268435456) :
  Calls Tryz.prog 303 #[.pointer (some ⟨B,0,none⟩)] w fun e w'=>OptsPost l B w e w':=by
 obtain ⟨i0,hi,hz0,hz1,hz2⟩:=info_parts infoOpt
 have HR:=hide h
 have hB:=h.lt
 clear h
 go_enter Tryz.func303,Tryz.ntmps303
 go_wp2
 go_loopg [3] l.length (fun g v3 wr=>∃ (m:List UInt8) (ps:List Pc),m.length=g∧g≤l.length∧2*ps.length+g≤l.length∧Hid (Rdr wr B m)∧Hid (wr.ownsRow w.heap.size 151 2 v3 ps.length (cellsO ps))∧Hid (pieces l=(pieces m).map fun r=>ps++r)∧Hid (w.grownBy wr (some B)))
 case atStart=>exact ⟨l,[],rfl,Nat.le_refl _,by simp,HR,hide (World.ownsRow_nil _ _ _ _),hide (by simp),hide (grown_refl _ _)⟩
 case round =>
  obtain ⟨m,ps,hm,hg,hps,H1,H2,H3,H4⟩:=hrel
  rename World=>wr
  match m,hm with
  | [],hm =>
   go_wp2_with fail
   refine (byte_no B _ (unhide H1)).mono ?_
   rintro e w1 ⟨rfl,rfl⟩
   refine ⟨rfl,unhide H4,?_⟩
   rw [unhide H3,pieces_nil]
   rfl
  | c::r,hm =>
   have hc8:=c.toNat_lt
   have hrl:r.length+1=gk:=by simpa using hm
   go_wp2_with fail
   refine (byte_ok B c r _ (unhide H1) (by simp only [List.length_cons,maxLen]; omega)).mono ?_
   rintro e w1 ⟨rfl,r1,g1⟩
   have R1:=hide r1
   have G1:=hide (grown_trans (unhide H4) g1)
   have O1:=hide (own_kept (unhide H2) g1 hB)
   clear r1 g1 H1 H2 H4 hm
   by_cases e255:c.toNat=255
   ·have q:(((c.toNat:Nat):Int)==255)=true:=by simp [e255]
    have HP:Hid (pieces l=some ps):=hide (by rw [unhide H3,pieces_end c r e255]; simp)
    obtain ⟨ao,cp,hv⟩:=own_slice (unhide O1)
    clear H3
    subst hv
    go_wp2
    go_ret
    refine ⟨unhide G1,?_⟩
    rw [unhide HP]
    exact ⟨_,rfl,unhide O1⟩
   ·have q:(((c.toNat:Nat):Int)==255)=false:=by simp; omega
    by_cases e0:c.toNat=0
    ·have q0:(((c.toNat:Nat):Int)==0)=true:=by simp [e0]
     have HP:Hid (pieces l=(pieces r).map fun x=>ps++x):=hide (by rw [unhide H3,pieces_none c r e0])
     clear H3 e255 e0
     go_wp2
     go_roundg (gk - 1)
     case rel=>exact ⟨r,ps,by omega,by omega,by omega,R1,O1,HP,G1⟩
     case measure=>omega
    ·have q0:(((c.toNat:Nat):Int)==0)=false:=by simp; omega
     match r,hrl with
     | [],hrl =>
      have HP:Hid (pieces l=none):=hide (by rw [unhide H3,pieces_lone c e255 e0]; rfl)
      clear H3 e255 e0
      go_wp2_with fail
      refine (byte_no B _ (unhide R1)).mono ?_
      rintro e w2 ⟨rfl,rfl⟩
      refine ⟨rfl,unhide G1,?_⟩
      rw [unhide HP]
     | n::z,hrl =>
      have hn8:=n.toNat_lt
      have hzl:z.length+2=gk:=by simpa using hrl
      go_wp2_with fail
      refine (byte_ok B n z _ (unhide R1) (by simp only [List.length_cons,maxLen]; omega)).mono ?_
      rintro e w2 ⟨rfl,r2,g2⟩
      have R2:=hide r2
      have G2:=hide (grown_trans (unhide G1) g2)
      have O2:=hide (own_kept (unhide O1) g2 hB)
      clear r2 g2 R1 G1 O1 hrl
      by_cases hfew:z.length<n.toNat
      ·have HP:Hid (pieces l=none):=hide (by rw [unhide H3,pieces_few c n z e255 e0 hfew]; rfl)
       clear H3 e255 e0
       go_wp2_with fail
       refine (take_no B z (n.toNat:Int) _ (unhide R2) (by omega)).mono ?_
       rintro e w3 ⟨rfl,rfl⟩
       refine ⟨rfl,unhide G2,?_⟩
       rw [unhide HP]
      ·have HP:Hid (pieces l=(pieces (z.drop n.toNat)).map fun x=>(ps++[(c,z.take n.toNat)])++x):=hide (pieces_step l z c n ps (unhide H3) e255 e0 hfew)
       clear H3 e255 e0
       have hw2:w.heap.size≤w2.heap.size:=(unhide G2).size
       have hpz:ps.length≤268435456:=by omega
       have OW:=hide (ownsRow_setCell_below (a:=⟨B,0,none⟩) (unhide O2) hB (.string ⟨(z.drop n.toNat).toArray⟩))
       go_wp2_with (first | (go_at_call 203; refine (take_ok B z n.toNat _ (unhide R2) (by omega) (by simp only [maxLen]; omega)).mono ?_; rintro e w3 ⟨rfl,rfl⟩) | (at_builtin; refine wpList_append_own _ rfl (.tmp 16) (.tmp 22) 184 rfl w.heap.size 151 i0 (.agg #[.int .u8 0,.string ⟨#[]⟩]) 2 24 Tryz.underlying184 hi hz0 hz1 hz2 rfl (by decide) _ ps.length (cellsO ps) rfl ((unhide OW).alloc _) ⟨w2.heap.size,0,none⟩ 1 1 [.int .u8 c.toNat,.string ⟨(z.take n.toNat).toArray⟩] rfl rfl ?c1 ?one ?h63 ?hby ?hba ?_))
       case c1 =>
        have q:=cell_new (w2.setCell ⟨B,0,none⟩ (.string ⟨(z.drop n.toNat).toArray⟩)) [.int .u8 c.toNat,.string ⟨(z.take n.toNat).toArray⟩] 151
        simpa using q
       case one=>intro u hu; simp at hu; rcases hu with rfl | rfl <;> rfl
       case h63=>simp only [maxLen]; omega
       case hby=>omega
       case hba=>simp; omega
       ·intro v' w4 hown hg4 _
        have hnew:∀ k,Value.ownBlock _=some k→w.heap.size≤k:=fun k hk=>((unhide O2).lt k hk).1
        have hG4:=grown_own (grown_alloc (grown_trans (unhide G2) (grown_set (.string ⟨(z.drop n.toNat).toArray⟩))) (.cells #[.int .u8 c.toNat,.string ⟨(z.take n.toNat).toArray⟩] 151)) hg4 hnew
        have hR4:Rdr w4 B (z.drop n.toNat):=rdr_grown (((unhide R2).set (z.drop n.toNat)).alloc _) hg4 (fun e=>by have:=hnew B e; omega)
        have R4:=hide hR4
        have G4:=hide hG4
        have hO4:w4.ownsRow w.heap.size 151 2 v' (ps++[(c,z.take n.toNat)]).length (cellsO (ps++[(c,z.take n.toNat)])):=by
         rw [List.length_append,cellsO_append]; exact hown
        have O4:=hide hO4
        clear hown hg4 hnew hG4 hR4 hO4 OW O2 R2 G2
        go_wp2
        go_roundg (z.drop n.toNat).length
        case rel=>exact ⟨z.drop n.toNat,ps++[(c,z.take n.toNat)],rfl,by rw [List.length_drop]; omega,by simp only [List.length_append,List.length_cons,List.length_nil,List.length_drop]; omega,R4,O4,HP,G4⟩
        case measure=>rw [List.length_drop]; omega
end Go.Proofs.YtbhbbeebncmaiaaGreatDoor.Dh
namespace Go.Proofs.YtbhbbeebncmaiaaGreatDoor.Sq
open Go.ChangeShapes Go.WideShapes Go.ChangeAt Go.RowKit Bs
set_option linter.unusedVariables false
theorem cells8:Tryz.prog.cellsOf 5=1:=by kernel_rfl
theorem cellsM:Tryz.prog.cellsOf 26=6:=by kernel_rfl
end Go.Proofs.YtbhbbeebncmaiaaGreatDoor.Sq
namespace Go.Proofs.YtbhbbeebncmaiaaGreatDoor.Dh
open Go.ChangeShapes Go.WideShapes Go.ChangeAt Go.RowKit Bs
open Rd (Rdr errP)
set_option linter.unusedVariables false
set_option linter.unusedSimpArgs false
theorem data_take (os:Opts) (c:UInt8) (k:Nat) (h:k<os.length):data (os.take (k+1)) c=data (os.take k) c++(if os[k].1=c then os[k].2 else []):=by
 rw [List.take_succ_eq_append_getElem h]
 simp only [data,List.filter_append,List.flatMap_append]
 congr 1
 by_cases e:os[k].1=c
 ·simp [e]
 ·have:(os[k].1==c)=false:=by simpa using e
  simp [e,List.filter_cons]
theorem has_take (os:Opts) (c:UInt8) (k:Nat) (h:k<os.length):has (os.take (k+1)) c=(has (os.take k) c || os[k].1==c):=by
 rw [List.take_succ_eq_append_getElem h]
 simp only [has,List.any_append,List.any_cons,List.any_nil,Bool.or_false]
theorem drop_take (os:Opts) (c:UInt8) (k:Nat) (h:k<os.length):drop (os.take (k+1)) c=drop (os.take k) c++(if os[k].1=c then [] else [os[k]]):=by
 rw [List.take_succ_eq_append_getElem h]
 simp only [drop,List.filter_append]
 congr 1
 by_cases e:os[k].1=c
 ·simp [e]
 ·simp [e,List.filter_cons]
theorem data_le (os:Opts) (c:UInt8):(data os c).length≤heavy os:=by
 induction os with
 | nil=>simp [data,heavy]
 | cons o r ih =>
  rw [data_cons,List.length_append]
  simp only [heavy,List.length_cons,List.map_cons,List.sum_cons] at ih ⊢
  have hif:(if o.1=c then o.2 else []).length≤o.2.length:=by split <;> simp
  omega
theorem toNat_eq (a b:UInt8):(((a.toNat:Nat):Int)==((b.toNat:Nat):Int))=decide (a=b):=by
 by_cases h:a=b
 ·subst h; simp
 ·have:a.toNat≠b.toNat:=fun e=>h (UInt8.toNat_inj.1 e)
  simp [h]; omega

set_option maxHeartbeats 2000000 in
theorem data_any (a:Option Addr) (cap:Nat) (os:Opts) (c:UInt8) (w:World) (hA:At w a os) (hl:heavy os≤268435456) :
  Calls Tryz.prog 279 #[.slice a os.length cap,.int .u8 c.toNat] w fun e w' =>
   e=.returned (.tuple #[.string ⟨(data os c).toArray⟩,.bool (has os c)])∧Below w.heap.size w w':=by
 obtain ⟨i0,hi,hz0,hz1,hz2⟩:=info_parts info8
 have hlen:os.length≤heavy os:=by unfold heavy; omega
 have HA:=hide hA
 clear hA
 go_enter Tryz.func279,Tryz.ntmps279
 go_wp2
 go_loopw [6,7,12] (fun v6 v7 i wr=>∃ k:Nat,k≤os.length∧i=.int .i64 k∧v7=.bool (has (os.take k) c)∧Hid (wr.ownsRow w.heap.size 5 1 v6 (data (os.take k) c).length (cells8 (data (os.take k) c)))∧Hid (Below w.heap.size w wr)) (fun _ _ i _=>os.length - (intOf i).toNat)
 case atStart=>exact ⟨0,Nat.zero_le _,rfl,rfl,hide (World.ownsRow_nil _ _ _ _),hide (Below.refl _ _)⟩
 case round =>
  obtain ⟨k,hk,rfl,rfl,HO,HW⟩:=hrel
  rename World=>wr
  have hdl:=data_le (os.take k) c
  have hkl:=heavy_le os k
  by_cases hlt:k<os.length
  ·obtain ⟨ad,rfl,c0,c1⟩:=(unhide HA).below (unhide HW) (Nat.le_refl _) k hlt
   obtain ⟨oc,od,hcd⟩:∃ x y,os[k]=(x,y):=⟨_,_,rfl⟩
   have ht:=heavy_take os k hlt
   have htl:=heavy_le os (k+1)
   have hdt:=data_take os c k hlt
   have hht:=has_take os c k hlt
   rw [hcd] at c0 c1 ht hdt hht
   simp only at c0 c1 ht hdt hht
   have HD:=hide hdt
   have HH:=hide hht
   have hwz:=(unhide HW).size
   obtain ⟨s,hS⟩:∃ s:ByteArray,s=⟨od.toArray⟩:=⟨_,rfl⟩
   have hsz:s.size=od.length:=by rw [hS]; exact str_size od
   have hst:s.data.toList=od:=by rw [hS]
   rw [← hS] at c1
   have HS:=hide hst
   clear hcd hdt hht hS hst
   by_cases e:oc=c
   ·have q:(((oc.toNat:Nat):Int)==((c.toNat:Nat):Int))=true:=by rw [toNat_eq]; simpa using e
    rw [if_pos e] at HD
    have HHT:Hid (has (os.take (k+1)) c=true):=hide (by rw [unhide HH]; simp [e])
    clear HH e
    go_wp2_with (at_builtin; refine Lib.wpList_append_own_string _ rfl (.tmp 20) (.tmp 22) 55 9 rfl w.heap.size 5 i0 Tryz.underlying55 Tryz.underlying9 hi hz0 hz1 hz2 _ _ _ rfl ((unhide HO).alloc _) s rfl ?h63 ?hby ?hba ?_)
    case h63=>simp only [maxLen]; omega
    case hby=>omega
    case hba=>simp; omega
    ·intro v' w1 hown hg _
     have hnew:∀ x,Value.ownBlock _=some x→w.heap.size≤x:=fun x hx=>((unhide HO).lt x hx).1
     have hB1:Below w.heap.size w w1:=((unhide HW).alloc hwz _).grown hg (by simp; omega) hnew
     have hO1:w1.ownsRow w.heap.size 5 1 v' (data (os.take (k+1)) c).length (cells8 (data (os.take (k+1)) c)):=by
      have e8:cells8 od=Lib.strCells s:=by rw [← unhide HS]; rfl
      rw [unhide HD,List.length_append,cells8_append,e8]; exact hown
     have O1:=hide hO1
     have B1:=hide hB1
     clear hown hg hnew hB1 hO1
     go_wp2
     go_roundw
     case rel=>exact ⟨k+1,by omega,by go_num,by rw [unhide HHT],O1,B1⟩
     case measure=>simp [intOf]; omega
   ·have q:(((oc.toNat:Nat):Int)==((c.toNat:Nat):Int))=false:=by rw [toNat_eq]; simpa using e
    rw [if_neg e,List.append_nil] at HD
    have HHT:Hid (has (os.take (k+1)) c=has (os.take k) c):=hide (by rw [unhide HH]; simp [e])
    clear HH e
    go_wp2
    go_roundw
    case rel=>exact ⟨k+1,by omega,by go_num,by rw [unhide HHT],hide (by rw [unhide HD]; exact (unhide HO).alloc _),hide ((unhide HW).alloc hwz _)⟩
    case measure=>simp [intOf]; omega
  ·have e:k=os.length:=by omega
   subst e
   rw [List.take_length] at HO
   have HT:Hid (has (os.take os.length) c=has os c):=hide (by rw [List.take_length])
   have hcv:=run_own_string wr _ _ _ (unhide HO)
   obtain ⟨ao,cp,hv⟩:=own_slice (unhide HO)
   subst hv
   go_wp2
   go_ret2
   exact ⟨by rw [unhide HT]; rfl,unhide HW⟩

set_option maxHeartbeats 2000000 in
theorem without_any (a:Option Addr) (cap:Nat) (os:Opts) (c:UInt8) (w:World) (hA:At w a os) (hl:heavy os≤268435456) :
  Calls Tryz.prog 305 #[.slice a os.length cap,.int .u8 c.toNat] w fun e w' =>
   ∃ v,e=.returned v∧w'.ownsRow w.heap.size 151 2 v (drop os c).length (cellsO (drop os c))∧Below w.heap.size w w':=by
 obtain ⟨i0,hi,hz0,hz1,hz2⟩:=info_parts infoOpt
 have hlen:os.length≤heavy os:=by unfold heavy; omega
 have HA:=hide hA
 clear hA
 go_enter Tryz.func305,Tryz.ntmps305
 go_wp2
 go_loopw [5,10] (fun v5 i wr=>∃ k:Nat,k≤os.length∧i=.int .i64 k∧(drop (os.take k) c).length≤k∧Hid (wr.ownsRow w.heap.size 151 2 v5 (drop (os.take k) c).length (cellsO (drop (os.take k) c)))∧Hid (Below w.heap.size w wr)) (fun _ i _=>os.length - (intOf i).toNat)
 case atStart=>exact ⟨0,Nat.zero_le _,rfl,Nat.le_refl _,hide (World.ownsRow_nil _ _ _ _),hide (Below.refl _ _)⟩
 case round =>
  obtain ⟨k,hk,rfl,hdk,HO,HW⟩:=hrel
  rename World=>wr
  by_cases hlt:k<os.length
  ·obtain ⟨ad,rfl,c0,c1⟩:=(unhide HA).below (unhide HW) (Nat.le_refl _) k hlt
   obtain ⟨oc,od,hcd⟩:∃ x y,os[k]=(x,y):=⟨_,_,rfl⟩
   have hdt:=drop_take os c k hlt
   rw [hcd] at c0 c1 hdt
   simp only at c0 c1 hdt
   have HD:=hide hdt
   have hwz:=(unhide HW).size
   clear hcd hdt
   by_cases e:oc=c
   ·have q:(((oc.toNat:Nat):Int) != ((c.toNat:Nat):Int))=false:=by rw [bne,toNat_eq]; simpa using e
    rw [if_pos e,List.append_nil] at HD
    clear e
    go_wp2
    go_roundw
    case rel=>exact ⟨k+1,by omega,by go_num,by rw [unhide HD]; omega,hide (by rw [unhide HD]; exact (unhide HO).alloc _),hide ((unhide HW).alloc hwz _)⟩
    case measure=>simp [intOf]; omega
   ·have q:(((oc.toNat:Nat):Int) != ((c.toNat:Nat):Int))=true:=by rw [bne,toNat_eq]; simpa using e
    rw [if_neg e] at HD
    clear e
    go_wp2_with (at_builtin; refine wpList_append_own _ rfl (.tmp 18) (.tmp 20) 184 rfl w.heap.size 151 i0 (.agg #[.int .u8 0,.string ⟨#[]⟩]) 2 24 Tryz.underlying184 hi hz0 hz1 hz2 rfl (by decide) _ _ _ rfl (((unhide HO).alloc _).alloc _) ⟨wr.heap.size+1,0,none⟩ 1 1 [.int .u8 oc.toNat,.string ⟨od.toArray⟩] rfl rfl ?c1 ?one ?h63 ?hby ?hba ?_)
    case c1 =>
     have q:=cell_new (wr.alloc (.cells #[.int .u8 oc.toNat,.string ⟨od.toArray⟩] 151)) [.int .u8 oc.toNat,.string ⟨od.toArray⟩] 151
     simpa using q
    case one=>intro u hu; simp at hu; rcases hu with rfl | rfl <;> rfl
    case h63=>simp only [maxLen]; omega
    case hby=>omega
    case hba=>simp; omega
    ·intro v' w1 hown hg _
     have hnew:∀ x,Value.ownBlock _=some x→w.heap.size≤x:=fun x hx=>((unhide HO).lt x hx).1
     have hB1:Below w.heap.size w w1:=(((unhide HW).alloc hwz _).alloc (by simp; omega) _).grown hg (by simp; omega) hnew
     have hO1:w1.ownsRow w.heap.size 151 2 v' (drop (os.take (k+1)) c).length (cellsO (drop (os.take (k+1)) c)):=by
      rw [unhide HD,List.length_append,cellsO_append]; exact hown
     have O1:=hide hO1
     have B1:=hide hB1
     clear hown hg hnew hB1 hO1
     go_wp2
     go_roundw
     case rel=>exact ⟨k+1,by omega,by go_num,by rw [unhide HD,List.length_append,List.length_cons,List.length_nil]; omega,O1,B1⟩
     case measure=>simp [intOf]; omega
  ·have e:k=os.length:=by omega
   subst e
   rw [List.take_length] at HO
   obtain ⟨ao,cp,hv⟩:=own_slice (unhide HO)
   subst hv
   go_wp2
   go_ret
   exact ⟨_,rfl,unhide HO,unhide HW⟩
end Go.Proofs.YtbhbbeebncmaiaaGreatDoor.Dh
namespace Go.Proofs.YtbhbbeebncmaiaaGreatDoor.Dh
open Go.ChangeShapes Go.WideShapes Go.ChangeAt Go.RowKit Bs
set_option linter.unusedVariables false
set_option linter.unusedSimpArgs false
def rowV (f:Nat→Value):Array Value:=((List.range 256).map f).toArray
def RowV (w:World) (b:Nat) (t:TypeId) (f:Nat→Value):Prop:=w.heap[b]?=some (.cells (rowV f) t (0,0))
theorem RowV.cell {w:World} {b:Nat} {t:TypeId} {f:Nat→Value} (h:RowV w b t f) (k:Nat) (hk:k<256):w.cell? ⟨b,k,none⟩=some (f k):=by
 rw [cell_of_row w b k _ _ _ h]
 simp [rowV,hk]
theorem RowV.free {w:World} {b:Nat} {t:TypeId} {f:Nat→Value} (h:RowV w b t f) (k:Nat):w.frozen? ⟨b,k,none⟩=false:=frozen_of_row w b k _ _ h
theorem RowV.set {w:World} {b:Nat} {t:TypeId} {f:Nat→Value} (h:RowV w b t f) (k:Nat) (hk:k<256) (v:Value):RowV (w.setCell ⟨b,k,none⟩ v) b t (fun j=>if j=k then v else f j):=by
 have q:=heap_setCell_same w b k _ t v h
 unfold RowV
 rw [q]
 congr 2
 apply Array.ext'
 simp only [rowV,Array.set!_eq_setIfInBounds,Array.toList_setIfInBounds]
 apply List.ext_getElem?
 intro i
 rw [List.getElem?_set]
 by_cases hi:i<256
 ·by_cases e:k=i
  ·subst e; simp [hk]
  ·have e':¬ i=k:=fun h=>e h.symm
   simp [e,e',hi]
 ·by_cases e:k=i
  ·omega
  ·simp [e,hi]
theorem RowV.kept {w w':World} {b:Nat} {t:TypeId} {f:Nat→Value} (h:RowV w b t f) (hb:w'.heap[b]?=w.heap[b]?):RowV w' b t f:=hb.trans h
theorem RowV.lt {w:World} {b:Nat} {t:TypeId} {f:Nat→Value} (h:RowV w b t f):b<w.heap.size:=lt_of_block h
theorem RowV.same {w:World} {b:Nat} {t:TypeId} {f g:Nat→Value} (h:RowV w b t f) (e:∀ j,j<256→f j=g j):RowV w b t g:=by
 unfold RowV at h ⊢
 rw [h]
 congr 2
 unfold rowV
 congr 1
 apply List.map_congr_left
 intro j hj
 exact e j (by simpa using hj)

structure Jl (ps:List Pc) (cs:List UInt8):Prop where
 nodup:cs.Nodup
 mem:∀ x,x ∈ cs↔has ps x=true
 all:addAll [] ps=cs.map fun c=>(c,data ps c)
theorem Jl.nil:Jl [] []:=⟨List.nodup_nil,fun x=>by simp [has],rfl⟩
theorem data_snoc (ps:List Pc) (p:Pc) (c:UInt8):data (ps++[p]) c=data ps c++(if p.1=c then p.2 else []):=by
 simp only [data,List.filter_append,List.flatMap_append]
 congr 1
 by_cases e:p.1=c
 ·simp [e]
 ·simp [e,List.filter_cons]
theorem has_snoc (ps:List Pc) (p:Pc) (c:UInt8):has (ps++[p]) c=(has ps c || p.1==c):=by
 simp only [has,List.any_append,List.any_cons,List.any_nil,Bool.or_false]
theorem add_in (cs:List UInt8) (f g:UInt8→List UInt8) (x:UInt8) (d:List UInt8) (hn:cs.Nodup) (hx:x ∈ cs) (hg:∀ c,g c=if x=c then f c++d else f c) :
  add (cs.map fun c=>(c,f c)) (x,d)=cs.map fun c=>(c,g c):=by
 induction cs with
 | nil=>cases hx
 | cons a r ih =>
  rw [List.nodup_cons] at hn
  simp only [List.map_cons,add]
  by_cases e:a=x
  ·subst e
   rw [if_pos rfl,hg a,if_pos rfl]
   congr 1
   apply List.map_congr_left
   intro c hc
   have:¬ a=c:=fun e=>hn.1 (e ▸ hc)
   rw [hg c,if_neg this]
  ·rw [if_neg e,hg a,if_neg (fun h=>e h.symm)]
   congr 1
   exact ih hn.2 ((List.mem_cons.1 hx).resolve_left (fun h=>e h.symm))
theorem add_out (cs:List UInt8) (f g:UInt8→List UInt8) (x:UInt8) (d:List UInt8) (hx:¬ x ∈ cs) (hg:∀ c,¬ x=c→g c=f c) (hd:g x=d) :
  add (cs.map fun c=>(c,f c)) (x,d)=(cs++[x]).map fun c=>(c,g c):=by
 induction cs with
 | nil=>simp [add,hd]
 | cons a r ih =>
  have ha:¬ a=x:=fun e=>hx (by simp [e])
  simp only [List.map_cons,add,List.cons_append]
  rw [if_neg ha,hg a (fun h=>ha h.symm)]
  congr 1
  exact ih (fun h=>hx (List.mem_cons_of_mem _ h))
theorem Jl.step {ps:List Pc} {cs:List UInt8} (h:Jl ps cs) (x:UInt8) (d:List UInt8) (hx:has ps x=true):Jl (ps++[(x,d)]) cs:=by
 refine ⟨h.nodup,fun y=>?_,?_⟩
 ·rw [has_snoc,h.mem y]
  by_cases e:x=y
  ·subst e; simp [hx]
  ·simp [e]
 ·rw [addAll_append,h.all]
  exact add_in cs (data ps) (data (ps++[(x,d)])) x d h.nodup ((h.mem x).2 hx) (fun c=>by
   rw [data_snoc]
   by_cases e:x=c <;> simp [e])
theorem Jl.more {ps:List Pc} {cs:List UInt8} (h:Jl ps cs) (x:UInt8) (d:List UInt8) (hx:has ps x=false):Jl (ps++[(x,d)]) (cs++[x]):=by
 have hxc:¬ x ∈ cs:=fun e=>by rw [(h.mem x).1 e] at hx; cases hx
 refine ⟨?_,fun y=>?_,?_⟩
 ·rw [List.nodup_append]
  refine ⟨h.nodup,by simp,fun a ha b hb=>?_⟩
  simp at hb
  subst hb
  exact fun e=>hxc (e ▸ ha)
 ·rw [has_snoc,List.mem_append,h.mem y]
  by_cases e:x=y
  ·subst e; simp
  ·have:¬ y=x:=fun h=>e h.symm
   simp [e,this]
 ·rw [addAll_append,h.all]
  exact add_out cs (data ps) (data (ps++[(x,d)])) x d hxc (fun c hc=>by rw [data_snoc]; simp [hc]) (by rw [data_snoc,data_no ps x hx]; simp)

theorem string_at {P:Program} {w w':World} {v v':Value} {base n:Nat} {xs:List Value} {t u ty e:TypeId} {i:TypeInfo} {s:ByteArray}
  (ht:P.underlying t=some (.slice e)) (hu:P.underlying u=some .string) (hi:P.info? e=some i) (hz:i.zero=some (.int .u8 0)) (hsize:i.size=1) (hby:i.bytes=1)
  (hown:w.ownsRow base e 1 v n xs) (h63:n+s.size≤maxLen) (hbytes:n+s.size≤140737488355328)
  (hr:(Builtin.append_ #[t,u] ty #[v,.string s]).run P w=.ok v' w'):v'.ownBlock=v.ownBlock∨∀ g,v'.ownBlock=some g→w.heap.size≤g:=by
 have hcl:=fun g hg=>hown.cells (g:=g) hg
 have hxl:=hown.1
 rcases hown.2 with ⟨rfl,hn⟩ | ⟨g,cap,cur,rfl,_,hg,hnc,hcm,hcs,_⟩
 ·right
  obtain ⟨v2,w2,hr2,h2,_,_⟩:=Lib.run_append_own_string (P:=P) w w.heap.size t u ty e i ht hu hi hz hsize hby (.slice none 0 0) 0 [] (World.ownsRow_nil _ _ _ _) s (by omega) (by omega) (Nat.le_refl _)
  rw [hr] at hr2
  cases hr2
  exact fun g hg=>(h2.lt g hg).1
 ·by_cases hroom:n+s.size≤cap
  ·left
   have hr2:=Lib.run_append_room_string (P:=P) w t u ty e i ht hu hi hsize g n cap cur hg s hroom (by rw [hcs]; omega)
   rw [hr] at hr2
   cases hr2
   rfl
  ·right
   unfold maxLen at h63
   have hr2:=Lib.run_append_grow_string (P:=P) w t u ty e i (.int .u8 0) ht hu hi hz ⟨g,0,none⟩ n cap xs (by rw [hsize]; simpa using hxl) (hcl g rfl) s (by omega) (by omega) (by rw [hby]; exact growslice_fits (by omega) (by omega))
   rw [hr] at hr2
   cases hr2
   intro g' hg'
   simp [Value.ownBlock] at hg'
   omega

theorem step_append_own_string {P:Program} {ops:Array Oper} {o:Oper} {a:Act} {w:World} {K:Act→World→Prop} {Q:Exit→Act→World→Prop} {E:Prop}
  (hg:o.guard=none) (sl x:Operand) (t u:TypeId) (ho:o.op=.call { callee:=.builtin .append,args:=#[sl,x],argTypes:=#[t,u] })
  (base:Nat) (e:TypeId) (i:TypeInfo) (ht:P.underlying t=some (.slice e)) (hu:P.underlying u=some .string) (hi:P.info? e=some i) (hz:i.zero=some (.int .u8 0))
  (hsize:i.size=1) (hby:i.bytes=1)
  (v:Value) (n:Nat) (xs:List Value) (hs:a.eval sl=v) (hown:w.ownsRow base e 1 v n xs) (s:ByteArray) (hx:a.eval x=.string s)
  (h63:n+s.size≤maxLen) (hbytes:n+s.size≤140737488355328) (hbase:base≤w.heap.size)
  (hK:∀ v' w',w'.ownsRow base e 1 v' (n+s.size) (xs++Lib.strCells s)→w.grownBy w' v.ownBlock→(v'.ownBlock=v.ownBlock∨∀ g,v'.ownBlock=some g→w.heap.size≤g)→K (a.put o.dst v') w') :
  if Region.wanted o (yielded ops a.tmps)=true then Oper.wp P o a w K Q else E:=by
 have hw:Region.wanted o (yielded ops a.tmps)=true:=by simp [Region.wanted,hg]
 rw [if_pos hw]
 obtain ⟨v',w',hr,h2,h3,h4⟩:=Lib.run_append_own_string (P:=P) w base t u o.type e i ht hu hi hz hsize hby v n xs hown s h63 hbytes hbase
 unfold Oper.wp execOp
 simp only [ho,resolve,invoke,builtin,Sem.run_bind,Sem.run_pure,Result.andThen_ok,List.map_toArray,List.map_cons,List.map_nil,hs,hx,hr]
 exact hK v' w' h2 h3 (string_at ht hu hi hz hsize hby hown h63 hbytes hr)
end Go.Proofs.YtbhbbeebncmaiaaGreatDoor.Dh
namespace Go.Proofs.YtbhbbeebncmaiaaGreatDoor.Dh
open Go.ChangeShapes Go.WideShapes Go.ChangeAt Go.RowKit Bs
open Rd (grown_trans)
set_option linter.unusedVariables false
set_option linter.unusedSimpArgs false
structure J1 (w wr:World) (pd pt:List Pc) (v5:Value) (outs:List Pc) (V:Nat→Value):Prop where
 row:RowV wr w.heap.size 344 V
 told:RowV wr (w.heap.size+1) 345 (fun j=>.bool (has pt (UInt8.ofNat j)))
 own:∀ j,j<256→wr.ownsRow (w.heap.size+2) 5 1 (V j) (data pd (UInt8.ofNat j)).length (cells8 (data pd (UInt8.ofNat j)))
 apart:∀ i j g,i<256→j<256→i≠j→(V i).ownBlock=some g→(V j).ownBlock≠some g
 out:wr.ownsRow (w.heap.size+2) 151 2 v5 outs.length (cellsO outs)
 below:Below w.heap.size w wr

theorem kinds {wr:World} {b:Nat} {v v5:Value} {n m:Nat} {xs ys:List Value} (h:wr.ownsRow b 5 1 v n xs) (h5:wr.ownsRow b 151 2 v5 m ys):∀ g,v.ownBlock=some g→v5.ownBlock≠some g:=fun g hg h5g=>by
 obtain ⟨c,fz,e1⟩:=Lib.ownsRow_kind h g hg
 obtain ⟨c',fz',e2⟩:=Lib.ownsRow_kind h5 g h5g
 rw [e1] at e2
 simp at e2
theorem not_row {r:Option Nat} {v:Value} (h:∀ g,v.ownBlock=some g→r≠some g):v.ownBlock=none∨v.ownBlock≠r:=by
 cases hv:v.ownBlock with
 | none=>exact Or.inl rfl
 | some g=>exact Or.inr (fun e=>h g hv e.symm)
theorem of_nat8 (c:UInt8):UInt8.ofNat c.toNat=c:=by simp
theorem of_nat_ne {c:UInt8} {j:Nat} (hj:j<256) (h:¬ j=c.toNat):¬ c=UInt8.ofNat j:=fun e=>h (by
 rw [e,UInt8.toNat_ofNat']; omega)

theorem J1.stepA {w wr w1:World} {ps:List Pc} {v5 v':Value} {outs:List Pc} {V:Nat→Value} (h:J1 w wr ps ps v5 outs V) (c:UInt8) (d:List UInt8) (n:Nat) (hn:n=(data ps c).length+d.length)
  (hown:w1.ownsRow (w.heap.size+2) 5 1 v' n (cells8 (data ps c)++cells8 d)) (hg:wr.grownBy w1 (V c.toNat).ownBlock)
  (hat:v'.ownBlock=(V c.toNat).ownBlock∨∀ g,v'.ownBlock=some g→wr.heap.size≤g) :
  J1 w (w1.setCell ⟨w.heap.size,c.toNat,none⟩ v') (ps++[(c,d)]) ps v5 outs (fun j=>if j=c.toNat then v' else V j):=by
 have hc:=c.toNat_lt
 have hX:∀ g,(V c.toNat).ownBlock=some g→w.heap.size+2≤g∧g<wr.heap.size:=fun g hg=>(h.own c.toNat hc).lt g hg
 have hD:w1.heap[w.heap.size]?=wr.heap[w.heap.size]?:=hg.block _ h.row.lt (fun e=>by have:=(hX _ e.symm).1; omega)
 have hT:w1.heap[w.heap.size+1]?=wr.heap[w.heap.size+1]?:=hg.block _ h.told.lt (fun e=>by have:=(hX _ e.symm).1; omega)
 have r1:=(h.row.kept hD).set c.toNat hc v'
 refine ⟨r1,?_,?_,?_,?_,?_⟩
 ·exact (h.told.kept hT).kept (Below.heap_setCell _ _ _ _ (by simp))
 ·intro j hj
  by_cases e:j=c.toNat
  ·subst e
   simp only [if_pos]
   refine ownsRow_setCell_below ?_ (by show w.heap.size<_; omega) _
   rw [of_nat8,data_snoc,if_pos rfl,List.length_append,cells8_append,← hn]
   exact hown
  ·simp only [if_neg e]
   refine ownsRow_setCell_below ?_ (by show w.heap.size<_; omega) _
   rw [data_snoc,if_neg (of_nat_ne hj e),List.append_nil]
   exact (h.own j hj).kept hg (not_row (fun g hgj hX=>h.apart c.toNat j g hc hj (fun e'=>e e'.symm) hX hgj))
 ·intro i j g hi hj hij hvi hvj
  by_cases ei:i=c.toNat
  ·have ej:¬ j=c.toNat:=fun e=>hij (ei.trans e.symm)
   simp only [if_pos ei] at hvi
   simp only [if_neg ej] at hvj
   rcases hat with hat | hat
   ·rw [hat] at hvi
    exact h.apart c.toNat j g hc hj (fun e=>ej e.symm) hvi hvj
   ·have h1:=hat g hvi
    have h2:=((h.own j hj).lt g hvj).2
    omega
  ·simp only [if_neg ei] at hvi
   by_cases ej:j=c.toNat
   ·simp only [if_pos ej] at hvj
    rcases hat with hat | hat
    ·rw [hat] at hvj
     exact h.apart i c.toNat g hi hc ei hvi hvj
    ·have h1:=hat g hvj
     have h2:=((h.own i hi).lt g hvi).2
     omega
   ·simp only [if_neg ej] at hvj
    exact h.apart i j g hi hj hij hvi hvj
 ·refine ownsRow_setCell_below (h.out.kept hg (not_row (fun g hg5 hXg=>kinds (h.own c.toNat hc) h.out g hXg hg5))) (by show w.heap.size<_; omega) _
 ·exact (h.below.grown hg h.below.size (fun g hgg=>by have:=(hX g hgg).1; omega)).setCell (Nat.le_refl _) _
theorem J1.stepB {w wr:World} {ps:List Pc} {v5:Value} {outs:List Pc} {V:Nat→Value} {c:UInt8} {d:List UInt8} (h:J1 w wr (ps++[(c,d)]) ps v5 outs V) (hc:has ps c=true):J1 w wr (ps++[(c,d)]) (ps++[(c,d)]) v5 outs V :=
 ⟨h.row,h.told.same (fun j hj=>by
  rw [has_snoc]
  by_cases e:c=UInt8.ofNat j
  ·rw [← e,hc]; rfl
  ·have:(c==UInt8.ofNat j)=false:=by simpa using e
   rw [this,Bool.or_false]),h.own,h.apart,h.out,h.below⟩
theorem J1.stepT {w wr:World} {ps:List Pc} {v5:Value} {outs:List Pc} {V:Nat→Value} {c:UInt8} {d:List UInt8} (h:J1 w wr (ps++[(c,d)]) ps v5 outs V):J1 w (wr.setCell ⟨w.heap.size+1,c.toNat,none⟩ (.bool true)) (ps++[(c,d)]) (ps++[(c,d)]) v5 outs V :=
 ⟨h.row.kept (Below.heap_setCell _ _ _ _ (by simp)),(h.told.set c.toNat c.toNat_lt (.bool true)).same (fun j hj=>by
  by_cases e:j=c.toNat
  ·subst e
   simp only [if_pos]
   rw [of_nat8,has_snoc]; simp
  ·simp only [if_neg e]
   rw [has_snoc]
   have:=of_nat_ne hj e
   have hb:(c==UInt8.ofNat j)=false:=by simpa using this
   rw [hb,Bool.or_false]),fun j hj=>ownsRow_setCell_below (h.own j hj) (by show w.heap.size+1<_; omega) _,h.apart,ownsRow_setCell_below h.out (by show w.heap.size+1<_; omega) _,h.below.setCell (by simp) _⟩
theorem J1.stepC {w wr w4:World} {pd pt:List Pc} {v5 v':Value} {outs:List Pc} {V:Nat→Value} (h:J1 w wr pd pt v5 outs V) (o:Pc) (n:Nat) (hn:n=outs.length+1)
  (hown:w4.ownsRow (w.heap.size+2) 151 2 v' n (cellsO outs++cellsO [o])) (hg:wr.grownBy w4 v5.ownBlock):J1 w w4 pd pt v' (outs++[o]) V:=by
 have hX:∀ g,v5.ownBlock=some g→w.heap.size+2≤g∧g<wr.heap.size:=fun g hg=>h.out.lt g hg
 refine ⟨h.row.kept (hg.block _ h.row.lt (fun e=>by have:=(hX _ e.symm).1; omega)),h.told.kept (hg.block _ h.told.lt (fun e=>by have:=(hX _ e.symm).1; omega)),fun j hj=>(h.own j hj).kept hg (not_row (fun g hgj=>kinds (h.own j hj) h.out g hgj)),h.apart,?_,h.below.grown hg h.below.size (fun g hgg=>by have:=(hX g hgg).1; omega)⟩
 rw [List.length_append,cellsO_append]
 rw [hn] at hown
 exact hown
theorem cellsO_set (outs:List Pc) (i:Nat) (hi:i<outs.length) (d:List UInt8):(cellsO outs).set (i*2+1) (.string ⟨d.toArray⟩)=cellsO (outs.set i ((outs[i]).1,d)):=by
 induction outs generalizing i with
 | nil=>simp at hi
 | cons o r ih =>
  cases i with
  | zero=>rfl
  | succ i =>
   have:=ih i (by simpa using hi)
   simp only [cellsO,List.flatMap_cons,List.set_cons_succ,List.getElem_cons_succ] at this ⊢
   rw [← this,show (i+1)*2+1=i*2+1+1+1 by omega]
   rfl
theorem J1.stepD {w wr:World} {pd pt:List Pc} {g cap:Nat} {outs:List Pc} {V:Nat→Value} (h:J1 w wr pd pt (.slice (some ⟨g,0,none⟩) outs.length cap) outs V) (i:Nat) (hi:i<outs.length) (d:List UInt8) :
  J1 w (wr.setCell ⟨g,i*2+1,none⟩ (.string ⟨d.toArray⟩)) pd pt (.slice (some ⟨g,0,none⟩) outs.length cap) (outs.set i ((outs[i]).1,d)) V:=by
 have hX:=h.out.lt g rfl
 obtain ⟨s1,s2⟩:=h.out.stored (i*2+1) (.string ⟨d.toArray⟩)
 refine ⟨h.row.kept (Below.heap_setCell _ _ _ _ (by simp; omega)),h.told.kept (Below.heap_setCell _ _ _ _ (by simp; omega)),fun j hj=>ownsRow_setCell_other (h.own j hj) (fun e=>kinds (h.own j hj) h.out g e rfl) _,h.apart,?_,h.below.setCell (by show w.heap.size≤g; omega) _⟩
 rw [cellsO_set outs i hi d] at s1
 rw [List.length_set]
 exact s1
end Go.Proofs.YtbhbbeebncmaiaaGreatDoor.Dh
namespace Go.Proofs.YtbhbbeebncmaiaaGreatDoor.IpK
open Go.ChangeShapes Go.WideShapes Go.ChangeAt Go.RowKit Bs Rd
open Ip (chk)
set_option linter.unusedVariables false
def bt (l:List UInt8) (i:Nat):Int:=((l.getD i 0).toNat:Int)
def w2 (l:List UInt8) (i:Nat):Int:=256*bt l i+bt l (i+1)
def w4 (l:List UInt8) (i:Nat):Int:=16777216*bt l i+65536*bt l (i+1)+256*bt l (i+2)+bt l (i+3)
def ipK (l:List UInt8):Int :=
 if l.length<20 then 1 else if bt l 0 / 16≠4∨bt l 0 % 16<5 then 2 else if 5<bt l 0 % 16 then 4
 else if w2 l 2<20 then 2 else if ((l.length:Nat):Int)<w2 l 2 then 1 else if chk (l.take 20)≠0 then 6
 else if 32768≤w2 l 6∨bt l 8=0 then 2 else if w2 l 6 % 16384≠0 then 5 else 0
def ipF (l:List UInt8) (x:Int):Int:=if ipK l=0 then x else 0
def ipLd (l:List UInt8):ByteArray:=if ipK l=0 then ⟨((l.drop 20).take ((w2 l 2).toNat - 20)).toArray⟩ else ⟨#[]⟩
theorem ipF_err {l:List UInt8} {k:Int} (h:ipK l=k) (hk:k≠0) (x:Int):ipF l x=0:=by unfold ipF; rw [if_neg (by rw [h]; exact hk)]
theorem ipLd_err {l:List UInt8} {k:Int} (h:ipK l=k) (hk:k≠0):ipLd l=⟨#[]⟩:=by unfold ipLd; rw [if_neg (by rw [h]; exact hk)]
theorem ipF_ok {l:List UInt8} (h:ipK l=0) (x:Int):ipF l x=x:=by unfold ipF; rw [if_pos h]
theorem ipLd_ok {l:List UInt8} (h:ipK l=0):ipLd l=⟨((l.drop 20).take ((w2 l 2).toNat - 20)).toArray⟩:=by unfold ipLd; rw [if_pos h]
theorem flag_iff (a b:UInt8):bits .and .u16 (256*(a.toNat:Int)+(b.toNat:Int)) 32768=0↔256*(a.toNat:Int)+(b.toNat:Int)<32768:=by
 have ha:=a.toNat_lt; have hb:=b.toNat_lt
 have e:256*(a.toNat:Int)+(b.toNat:Int)=((256*a.toNat+b.toNat:Nat):Int):=by omega
 rw [e,and_flag _ (by omega)]; omega
theorem part_iff (a b:UInt8):bits .and .u16 (256*(a.toNat:Int)+(b.toNat:Int)) 16383=0↔(256*(a.toNat:Int)+(b.toNat:Int)) % 16384=0:=by
 have ha:=a.toNat_lt; have hb:=b.toNat_lt
 have e:256*(a.toNat:Int)+(b.toNat:Int)=((256*a.toNat+b.toNat:Nat):Int):=by omega
 rw [e,and_part _ (by omega)]; omega
theorem twenty (l:List UInt8) (h:20≤l.length):∃ a0 a1 a2 a3 a4 a5 a6 a7 a8 a9 a10 a11 a12 a13 a14 a15 a16 a17 a18 a19 r,l=a0::a1::a2::a3::a4::a5::a6::a7::a8::a9::a10::a11::a12::a13::a14::a15::a16::a17::a18::a19::r:=by
 obtain ⟨a0,a1,a2,a3,a4,a5,l1,rfl⟩:=EtR.sixth l (by omega)
 simp only [List.length_cons] at h
 obtain ⟨a6,a7,a8,a9,a10,a11,l2,rfl⟩:=EtR.sixth l1 (by omega)
 simp only [List.length_cons] at h
 obtain ⟨a12,a13,a14,a15,a16,a17,l3,rfl⟩:=EtR.sixth l2 (by omega)
 simp only [List.length_cons] at h
 obtain ⟨a18,a19,r,rfl⟩:=EtR.second l3 (by omega)
 exact ⟨a0,a1,a2,a3,a4,a5,a6,a7,a8,a9,a10,a11,a12,a13,a14,a15,a16,a17,a18,a19,r,rfl⟩
end Go.Proofs.YtbhbbeebncmaiaaGreatDoor.IpK
namespace Go.Proofs.YtbhbbeebncmaiaaGreatDoor.UdR
open Go.ChangeShapes Go.WideShapes Go.ChangeAt Go.RowKit Bs Rd
open EtR (other grown_new row_cell row_free row_set)
open Ip (chk)
open Ud (udpP udpCheck_any)
set_option linter.unusedVariables false
theorem udp_short (B:Nat) (l:List UInt8) (fr ta:Int) (w:World) (h:Rdr w B l) (hn:l.length<8) :
  Calls Tryz.prog 212 #[.pointer (some ⟨B,0,none⟩),.int .u32 fr,.int .u32 ta] w fun ee w'=>ee=.panicked (errP 1)∧w.grownBy w' (some B):=by
 have hB:=h.lt
 have hne0:w.heap.size≠B:=by omega
 have H0:=hide (h.alloc (.cells #[.int .u16 0,.int .u16 0,.string ⟨#[]⟩] 98))
 have G0:=hide (grown_alloc (grown_refl w (some B)) (.cells #[.int .u16 0,.int .u16 0,.string ⟨#[]⟩] 98))
 have R0:Hid ((w.alloc (.cells #[.int .u16 0,.int .u16 0,.string ⟨#[]⟩] 98)).heap[w.heap.size]?=some (.cells #[.int .u16 0,.int .u16 0,.string ⟨#[]⟩] 98 (0,0))):=heap_alloc_new w _
 clear h
 go_enter Tryz.func212,Tryz.ntmps212
 go_wp2_with fail
 refine (need_no _ _ _ _ (unhide H0) (by omega)).mono ?_
 rintro ee wz ⟨rfl,hwz⟩
 exact ⟨rfl,rfl,by rw [hwz]; exact unhide G0⟩

set_option maxHeartbeats 2000000 in
theorem udp_length (B:Nat) (a0 a1 a2 a3 a4 a5 a6 a7:UInt8) (l:List UInt8) (fr ta:Int) (w:World) (h:Rdr w B (a0::a1::a2::a3::a4::a5::a6::a7::l)) (hs:(a0::a1::a2::a3::a4::a5::a6::a7::l).length≤maxLen) (k:Int) (hx:∀ u,Rdr u B (a4::a5::a6::a7::l)→Calls Tryz.prog 248 #[.pointer (some ⟨B,0,none⟩),.int .i64 8,.int .i64 ((l.length+8:Nat):Int)] u fun e w'=>e=.panicked (errP k)∧u.grownBy w' (some B)) :
  Calls Tryz.prog 212 #[.pointer (some ⟨B,0,none⟩),.int .u32 fr,.int .u32 ta] w fun ee w'=>ee=.panicked (errP k)∧w.grownBy w' (some B):=by
 obtain ⟨s,hS⟩:∃ s:ByteArray,s=⟨(a0::a1::a2::a3::a4::a5::a6::a7::l).toArray⟩:=⟨_,rfl⟩
 have hz:s.size=l.length+8:=by rw [hS,str_size]; simp
 have hmx:(s.size:Int)≤9223372036854775807:=by rw [hz]; simp only [List.length_cons,maxLen] at hs; omega
 have hk8:(8:Int)≤(s.size:Int):=by omega
 have hB:=h.lt
 have hne0:w.heap.size≠B:=by omega
 have H0:=hide (h.alloc (.cells #[.int .u16 0,.int .u16 0,.string ⟨#[]⟩] 98))
 have G0:=hide (grown_alloc (grown_refl w (some B)) (.cells #[.int .u16 0,.int .u16 0,.string ⟨#[]⟩] 98))
 have R0:Hid ((w.alloc (.cells #[.int .u16 0,.int .u16 0,.string ⟨#[]⟩] 98)).heap[w.heap.size]?=some (.cells #[.int .u16 0,.int .u16 0,.string ⟨#[]⟩] 98 (0,0))):=heap_alloc_new w _
 have hc0:(w.alloc (.cells #[.int .u16 0,.int .u16 0,.string ⟨#[]⟩] 98)).cell? ⟨B,0,none⟩=some (.string s):=by rw [hS]; exact cell_of_one (unhide H0)
 have hn0:(8:Int)≤((a0::a1::a2::a3::a4::a5::a6::a7::l).length:Int):=by simp only [List.length_cons]; omega
 have HN0:=hide hn0
 clear h hn0
 have T1:=hide (fun u hu=>word_ok B a0 a1 (a2::a3::a4::a5::a6::a7::l) u hu (by simp only [List.length_cons,maxLen] at hs ⊢; omega))
 have T2:=hide (fun u hu=>word_ok B a2 a3 (a4::a5::a6::a7::l) u hu (by simp only [List.length_cons,maxLen] at hs ⊢; omega))
 obtain ⟨x0,hx0⟩:∃ x,x=(256*(a0.toNat:Int)+(a1.toNat:Int)):=⟨_,rfl⟩
 obtain ⟨x2,hx2⟩:∃ x,x=(256*(a2.toNat:Int)+(a3.toNat:Int)):=⟨_,rfl⟩
 rw [← hx0] at T1
 rw [← hx2] at T2
 have T3:=hide (fun u hu=>hx u hu)
 rw [← hz] at T3
 clear hx hS hz hx0 hx2
 go_enter Tryz.func212,Tryz.ntmps212
 go_wp2_with fail
 refine (need_ok _ _ _ _ (unhide H0) (unhide HN0)).mono ?_
 rintro ee wz ⟨rfl,hwz⟩
 rw [hwz]
 clear hwz wz
 have hneV:w.heap.size+1≠B:=by omega
 have hlt0:w.heap.size<w.heap.size+1:=by omega
 have H1:=hide ((unhide H0).alloc (.cells #[.int .u16 0,.int .u16 0,.string ⟨#[]⟩] 98))
 have G1:=hide (grown_alloc (unhide G0) (.cells #[.int .u16 0,.int .u16 0,.string ⟨#[]⟩] 98))
 have E1:Hid (((w.alloc (.cells #[.int .u16 0,.int .u16 0,.string ⟨#[]⟩] 98)).alloc (.cells #[.int .u16 0,.int .u16 0,.string ⟨#[]⟩] 98)).heap[w.heap.size+1]?=some (.cells #[.int .u16 0,.int .u16 0,.string ⟨#[]⟩] 98 (0,0))):=by
  have q:=heap_alloc_new (w.alloc (.cells #[.int .u16 0,.int .u16 0,.string ⟨#[]⟩] 98)) (.cells #[.int .u16 0,.int .u16 0,.string ⟨#[]⟩] 98)
  rw [show (w.alloc (.cells #[.int .u16 0,.int .u16 0,.string ⟨#[]⟩] 98)).heap.size=w.heap.size+1 by simp] at q
  exact q
 have R1:Hid (((w.alloc (.cells #[.int .u16 0,.int .u16 0,.string ⟨#[]⟩] 98)).alloc (.cells #[.int .u16 0,.int .u16 0,.string ⟨#[]⟩] 98)).heap[w.heap.size]?=some (.cells #[.int .u16 0,.int .u16 0,.string ⟨#[]⟩] 98 (0,0))):=by
  show _=_
  rw [Below.heap_alloc _ _ _ (by simp)]
  exact unhide R0
 clear H0 G0 R0
 go_wp2_with fail
 refine (unhide T1 _ (unhide H1)).mono ?_
 rintro ee w2 ⟨rfl,k2,g2⟩
 have hr:w2.heap[w.heap.size]?=some (.cells #[.int .u16 0,.int .u16 0,.string ⟨#[]⟩] 98 (0,0)):=(g2.block _ (lt_of_block (unhide R1)) (fun q=>hne0 (by simpa using q))).trans (unhide R1)
 have he:w2.heap[w.heap.size+1]?=some (.cells #[.int .u16 0,.int .u16 0,.string ⟨#[]⟩] 98 (0,0)):=(g2.block _ (lt_of_block (unhide E1)) (fun q=>hneV (by simpa using q))).trans (unhide E1)
 have c2_0:w2.cell? ⟨w.heap.size+1,0,none⟩=some (.int .u16 0):=row_cell he rfl
 have f2:=row_free he
 have E2:Hid ((w2.setCell ⟨w.heap.size+1,0,none⟩ (.int .u16 x0)).heap[w.heap.size+1]?=some (.cells #[.int .u16 x0,.int .u16 0,.string ⟨#[]⟩] 98 (0,0))):=row_set he 0 (.int .u16 x0)
 have H2:Hid (Rdr (w2.setCell ⟨w.heap.size+1,0,none⟩ (.int .u16 x0)) B (a2::a3::a4::a5::a6::a7::l)):=other k2 hneV.symm _
 have G2:Hid (w.grownBy (w2.setCell ⟨w.heap.size+1,0,none⟩ (.int .u16 x0)) (some B)):=grown_new (grown_trans (unhide G1) g2) (Nat.le_of_lt hlt0) _
 have R2:Hid ((w2.setCell ⟨w.heap.size+1,0,none⟩ (.int .u16 x0)).heap[w.heap.size]?=some (.cells #[.int .u16 0,.int .u16 0,.string ⟨#[]⟩] 98 (0,0))):=by
  show _=_
  rw [Below.heap_setCell _ _ _ _ (Nat.ne_of_lt hlt0)]; exact hr
 clear hr k2 g2 H1 G1 R1 he E1
 go_wp2_with fail
 refine (unhide T2 _ (unhide H2)).mono ?_
 rintro ee w3 ⟨rfl,k3,g3⟩
 have hr:w3.heap[w.heap.size]?=some (.cells #[.int .u16 0,.int .u16 0,.string ⟨#[]⟩] 98 (0,0)):=(g3.block _ (lt_of_block (unhide R2)) (fun q=>hne0 (by simpa using q))).trans (unhide R2)
 have he:w3.heap[w.heap.size+1]?=some (.cells #[.int .u16 x0,.int .u16 0,.string ⟨#[]⟩] 98 (0,0)):=(g3.block _ (lt_of_block (unhide E2)) (fun q=>hneV (by simpa using q))).trans (unhide E2)
 have c3_1:w3.cell? ⟨w.heap.size+1,1,none⟩=some (.int .u16 0):=row_cell he rfl
 have f3:=row_free he
 have E3:Hid ((w3.setCell ⟨w.heap.size+1,1,none⟩ (.int .u16 x2)).heap[w.heap.size+1]?=some (.cells #[.int .u16 x0,.int .u16 x2,.string ⟨#[]⟩] 98 (0,0))):=row_set he 1 (.int .u16 x2)
 have H3:Hid (Rdr (w3.setCell ⟨w.heap.size+1,1,none⟩ (.int .u16 x2)) B (a4::a5::a6::a7::l)):=other k3 hneV.symm _
 have G3:Hid (w.grownBy (w3.setCell ⟨w.heap.size+1,1,none⟩ (.int .u16 x2)) (some B)):=grown_new (grown_trans (unhide G2) g3) (Nat.le_of_lt hlt0) _
 have R3:Hid ((w3.setCell ⟨w.heap.size+1,1,none⟩ (.int .u16 x2)).heap[w.heap.size]?=some (.cells #[.int .u16 0,.int .u16 0,.string ⟨#[]⟩] 98 (0,0))):=by
  show _=_
  rw [Below.heap_setCell _ _ _ _ (Nat.ne_of_lt hlt0)]; exact hr
 clear hr k3 g3 H2 G2 R2 he E2
 go_wp2_with fail
 refine (unhide T3 _ (unhide H3)).mono ?_
 rintro ee wz ⟨rfl,gz⟩
 exact ⟨rfl,rfl,grown_trans (unhide G3) gz⟩

set_option maxHeartbeats 2000000 in
theorem udp_sum (B:Nat) (a0 a1 a2 a3 a4 a5 a6 a7:UInt8) (l:List UInt8) (fr ta:Int) (w:World) (h:Rdr w B (a0::a1::a2::a3::a4::a5::a6::a7::l)) (hs:(a0::a1::a2::a3::a4::a5::a6::a7::l).length≤maxLen) (hf:0≤fr∧fr≤4294967295) (ho:0≤ta∧ta≤4294967295) (m k:Nat) (hmk:m=8+k) (hn:(256*(a4.toNat:Int)+(a5.toNat:Int))=(m:Int)) (hk:k≤l.length) (hm:m≤65535) (hq0:(256*(a6.toNat:Int)+(a7.toNat:Int))≠0) (hsum:chk (udpP fr ta (m:Int)++(a0::a1::a2::a3::a4::a5::a6::a7::l).take m)≠0) :
  Calls Tryz.prog 212 #[.pointer (some ⟨B,0,none⟩),.int .u32 fr,.int .u32 ta] w fun ee w'=>ee=.panicked (errP 6)∧w.grownBy w' (some B):=by
 obtain ⟨s,hS⟩:∃ s:ByteArray,s=⟨(a0::a1::a2::a3::a4::a5::a6::a7::l).toArray⟩:=⟨_,rfl⟩
 have hz:s.size=l.length+8:=by rw [hS,str_size]; simp
 have hmx:(s.size:Int)≤9223372036854775807:=by rw [hz]; simp only [List.length_cons,maxLen] at hs; omega
 have hk8:(8:Int)≤(s.size:Int):=by omega
 have hB:=h.lt
 have hne0:w.heap.size≠B:=by omega
 have H0:=hide (h.alloc (.cells #[.int .u16 0,.int .u16 0,.string ⟨#[]⟩] 98))
 have G0:=hide (grown_alloc (grown_refl w (some B)) (.cells #[.int .u16 0,.int .u16 0,.string ⟨#[]⟩] 98))
 have R0:Hid ((w.alloc (.cells #[.int .u16 0,.int .u16 0,.string ⟨#[]⟩] 98)).heap[w.heap.size]?=some (.cells #[.int .u16 0,.int .u16 0,.string ⟨#[]⟩] 98 (0,0))):=heap_alloc_new w _
 have hc0:(w.alloc (.cells #[.int .u16 0,.int .u16 0,.string ⟨#[]⟩] 98)).cell? ⟨B,0,none⟩=some (.string s):=by rw [hS]; exact cell_of_one (unhide H0)
 have hn0:(8:Int)≤((a0::a1::a2::a3::a4::a5::a6::a7::l).length:Int):=by simp only [List.length_cons]; omega
 have HN0:=hide hn0
 clear h hn0
 have T1:=hide (fun u hu=>word_ok B a0 a1 (a2::a3::a4::a5::a6::a7::l) u hu (by simp only [List.length_cons,maxLen] at hs ⊢; omega))
 have T2:=hide (fun u hu=>word_ok B a2 a3 (a4::a5::a6::a7::l) u hu (by simp only [List.length_cons,maxLen] at hs ⊢; omega))
 obtain ⟨x0,hx0⟩:∃ x,x=(256*(a0.toNat:Int)+(a1.toNat:Int)):=⟨_,rfl⟩
 obtain ⟨x2,hx2⟩:∃ x,x=(256*(a2.toNat:Int)+(a3.toNat:Int)):=⟨_,rfl⟩
 rw [← hx0] at T1
 rw [← hx2] at T2
 have T3:=(fun u hu=>length_ok B a4 a5 (a6::a7::l) 8 (s.size:Int) u hu (by simp only [List.length_cons,maxLen] at hs ⊢; omega) (by omega) (by omega))
 rw [hn] at T3
 have T3:=hide T3
 have T4:=(fun u hu=>word_ok B a6 a7 l u hu (by simp only [List.length_cons,maxLen] at hs ⊢; omega))
 have hm1:(m:Int)≤(s.size:Int):=by omega
 obtain ⟨x6,hx6⟩:∃ x,x=(256*(a6.toNat:Int)+(a7.toNat:Int)):=⟨_,rfl⟩
 rw [← hx6] at T4 hq0
 have hqn:(x6==0)=false:=by simpa using hq0
 have TC:=(fun u=>udpCheck_any (s.extract 0 m) fr ta u (by rw [ByteArray.size_extract]; omega) hf ho)
 have esz:((s.extract 0 m).size:Int)=(m:Int):=by rw [ByteArray.size_extract]; omega
 have edt:(s.extract 0 m).data.toList=(a0::a1::a2::a3::a4::a5::a6::a7::l).take m:=by rw [hS,str_take]
 rw [esz,edt] at TC
 obtain ⟨c,hc⟩:∃ c,c=chk (udpP fr ta (m:Int)++(a0::a1::a2::a3::a4::a5::a6::a7::l).take m):=⟨_,rfl⟩
 rw [← hc] at TC hsum
 have TC:=hide TC
 have hcn:(c==0)=false:=by simpa using hsum
 clear esz edt hc hx6
 have T4:=hide T4
 clear hS hz hx0 hx2 hn hmk
 go_enter Tryz.func212,Tryz.ntmps212
 go_wp2_with fail
 refine (need_ok _ _ _ _ (unhide H0) (unhide HN0)).mono ?_
 rintro ee wz ⟨rfl,hwz⟩
 rw [hwz]
 clear hwz wz
 have hneV:w.heap.size+1≠B:=by omega
 have hlt0:w.heap.size<w.heap.size+1:=by omega
 have H1:=hide ((unhide H0).alloc (.cells #[.int .u16 0,.int .u16 0,.string ⟨#[]⟩] 98))
 have G1:=hide (grown_alloc (unhide G0) (.cells #[.int .u16 0,.int .u16 0,.string ⟨#[]⟩] 98))
 have E1:Hid (((w.alloc (.cells #[.int .u16 0,.int .u16 0,.string ⟨#[]⟩] 98)).alloc (.cells #[.int .u16 0,.int .u16 0,.string ⟨#[]⟩] 98)).heap[w.heap.size+1]?=some (.cells #[.int .u16 0,.int .u16 0,.string ⟨#[]⟩] 98 (0,0))):=by
  have q:=heap_alloc_new (w.alloc (.cells #[.int .u16 0,.int .u16 0,.string ⟨#[]⟩] 98)) (.cells #[.int .u16 0,.int .u16 0,.string ⟨#[]⟩] 98)
  rw [show (w.alloc (.cells #[.int .u16 0,.int .u16 0,.string ⟨#[]⟩] 98)).heap.size=w.heap.size+1 by simp] at q
  exact q
 have R1:Hid (((w.alloc (.cells #[.int .u16 0,.int .u16 0,.string ⟨#[]⟩] 98)).alloc (.cells #[.int .u16 0,.int .u16 0,.string ⟨#[]⟩] 98)).heap[w.heap.size]?=some (.cells #[.int .u16 0,.int .u16 0,.string ⟨#[]⟩] 98 (0,0))):=by
  show _=_
  rw [Below.heap_alloc _ _ _ (by simp)]
  exact unhide R0
 clear H0 G0 R0
 go_wp2_with fail
 refine (unhide T1 _ (unhide H1)).mono ?_
 rintro ee w2 ⟨rfl,k2,g2⟩
 have hr:w2.heap[w.heap.size]?=some (.cells #[.int .u16 0,.int .u16 0,.string ⟨#[]⟩] 98 (0,0)):=(g2.block _ (lt_of_block (unhide R1)) (fun q=>hne0 (by simpa using q))).trans (unhide R1)
 have he:w2.heap[w.heap.size+1]?=some (.cells #[.int .u16 0,.int .u16 0,.string ⟨#[]⟩] 98 (0,0)):=(g2.block _ (lt_of_block (unhide E1)) (fun q=>hneV (by simpa using q))).trans (unhide E1)
 have c2_0:w2.cell? ⟨w.heap.size+1,0,none⟩=some (.int .u16 0):=row_cell he rfl
 have f2:=row_free he
 have E2:Hid ((w2.setCell ⟨w.heap.size+1,0,none⟩ (.int .u16 x0)).heap[w.heap.size+1]?=some (.cells #[.int .u16 x0,.int .u16 0,.string ⟨#[]⟩] 98 (0,0))):=row_set he 0 (.int .u16 x0)
 have H2:Hid (Rdr (w2.setCell ⟨w.heap.size+1,0,none⟩ (.int .u16 x0)) B (a2::a3::a4::a5::a6::a7::l)):=other k2 hneV.symm _
 have G2:Hid (w.grownBy (w2.setCell ⟨w.heap.size+1,0,none⟩ (.int .u16 x0)) (some B)):=grown_new (grown_trans (unhide G1) g2) (Nat.le_of_lt hlt0) _
 have R2:Hid ((w2.setCell ⟨w.heap.size+1,0,none⟩ (.int .u16 x0)).heap[w.heap.size]?=some (.cells #[.int .u16 0,.int .u16 0,.string ⟨#[]⟩] 98 (0,0))):=by
  show _=_
  rw [Below.heap_setCell _ _ _ _ (Nat.ne_of_lt hlt0)]; exact hr
 clear hr k2 g2 H1 G1 R1 he E1
 go_wp2_with fail
 refine (unhide T2 _ (unhide H2)).mono ?_
 rintro ee w3 ⟨rfl,k3,g3⟩
 have hr:w3.heap[w.heap.size]?=some (.cells #[.int .u16 0,.int .u16 0,.string ⟨#[]⟩] 98 (0,0)):=(g3.block _ (lt_of_block (unhide R2)) (fun q=>hne0 (by simpa using q))).trans (unhide R2)
 have he:w3.heap[w.heap.size+1]?=some (.cells #[.int .u16 x0,.int .u16 0,.string ⟨#[]⟩] 98 (0,0)):=(g3.block _ (lt_of_block (unhide E2)) (fun q=>hneV (by simpa using q))).trans (unhide E2)
 have c3_1:w3.cell? ⟨w.heap.size+1,1,none⟩=some (.int .u16 0):=row_cell he rfl
 have f3:=row_free he
 have E3:Hid ((w3.setCell ⟨w.heap.size+1,1,none⟩ (.int .u16 x2)).heap[w.heap.size+1]?=some (.cells #[.int .u16 x0,.int .u16 x2,.string ⟨#[]⟩] 98 (0,0))):=row_set he 1 (.int .u16 x2)
 have H3:Hid (Rdr (w3.setCell ⟨w.heap.size+1,1,none⟩ (.int .u16 x2)) B (a4::a5::a6::a7::l)):=other k3 hneV.symm _
 have G3:Hid (w.grownBy (w3.setCell ⟨w.heap.size+1,1,none⟩ (.int .u16 x2)) (some B)):=grown_new (grown_trans (unhide G2) g3) (Nat.le_of_lt hlt0) _
 have R3:Hid ((w3.setCell ⟨w.heap.size+1,1,none⟩ (.int .u16 x2)).heap[w.heap.size]?=some (.cells #[.int .u16 0,.int .u16 0,.string ⟨#[]⟩] 98 (0,0))):=by
  show _=_
  rw [Below.heap_setCell _ _ _ _ (Nat.ne_of_lt hlt0)]; exact hr
 clear hr k3 g3 H2 G2 R2 he E2
 go_wp2_with fail
 refine (unhide T3 _ (unhide H3)).mono ?_
 rintro ee w4 ⟨rfl,k4,g4⟩
 have hr:w4.heap[w.heap.size]?=some (.cells #[.int .u16 0,.int .u16 0,.string ⟨#[]⟩] 98 (0,0)):=(g4.block _ (lt_of_block (unhide R3)) (fun q=>hne0 (by simpa using q))).trans (unhide R3)
 have he:w4.heap[w.heap.size+1]?=some (.cells #[.int .u16 x0,.int .u16 x2,.string ⟨#[]⟩] 98 (0,0)):=(g4.block _ (lt_of_block (unhide E3)) (fun q=>hneV (by simpa using q))).trans (unhide E3)
 have H4:=hide k4
 have G4:=hide (grown_trans (unhide G3) g4)
 have R4:=hide hr
 have E4:=hide he
 clear hr k4 g4 H3 G3 R3 he E3
 go_wp2_with fail
 refine (unhide T4 _ (unhide H4)).mono ?_
 rintro ee w5 ⟨rfl,k5,g5⟩
 have hr:w5.heap[w.heap.size]?=some (.cells #[.int .u16 0,.int .u16 0,.string ⟨#[]⟩] 98 (0,0)):=(g5.block _ (lt_of_block (unhide R4)) (fun q=>hne0 (by simpa using q))).trans (unhide R4)
 have he:w5.heap[w.heap.size+1]?=some (.cells #[.int .u16 x0,.int .u16 x2,.string ⟨#[]⟩] 98 (0,0)):=(g5.block _ (lt_of_block (unhide E4)) (fun q=>hneV (by simpa using q))).trans (unhide E4)
 have H5:=hide k5
 have G5:=hide (grown_trans (unhide G4) g5)
 have R5:=hide hr
 have E5:=hide he
 clear hr k5 g5 H4 G4 R4 he E4
 go_wp2_with fail
 refine (unhide TC _).mono ?_
 rintro ee w6 ⟨rfl,b6⟩
 have H6:Hid (Rdr w6 B (l)):=(b6.block _ (lt_of_block (unhide H5))).trans (unhide H5)
 have G6:=hide (grown_below (unhide G5) b6)
 have R6:=hide ((b6.block _ (lt_of_block (unhide R5))).trans (unhide R5))
 have E6:=hide ((b6.block _ (lt_of_block (unhide E5))).trans (unhide E5))
 clear b6 H5 G5 R5 E5
 go_wp2_with fail
 refine (must_else _ (by simp) _ _).mono ?_
 rintro ee wz ⟨rfl,hwz⟩
 exact ⟨rfl,rfl,by rw [hwz]; exact unhide G6⟩

set_option maxHeartbeats 2000000 in
theorem udp_ok0 (B:Nat) (a0 a1 a2 a3 a4 a5 a6 a7:UInt8) (l:List UInt8) (fr ta:Int) (w:World) (h:Rdr w B (a0::a1::a2::a3::a4::a5::a6::a7::l)) (hs:(a0::a1::a2::a3::a4::a5::a6::a7::l).length≤maxLen) (hf:0≤fr∧fr≤4294967295) (ho:0≤ta∧ta≤4294967295) (m k:Nat) (hmk:m=8+k) (hn:(256*(a4.toNat:Int)+(a5.toNat:Int))=(m:Int)) (hk:k≤l.length) (hm:m≤65535) (hq0:(256*(a6.toNat:Int)+(a7.toNat:Int))=0) (hL:l.length≤1099511627776) :
  Calls Tryz.prog 212 #[.pointer (some ⟨B,0,none⟩),.int .u32 fr,.int .u32 ta] w fun ee w'=>ee=.returned (.agg #[.int .u16 (256*(a0.toNat:Int)+(a1.toNat:Int)),.int .u16 (256*(a2.toNat:Int)+(a3.toNat:Int)),.string ⟨(l.take k).toArray⟩])∧w.grownBy w' (some B):=by
 obtain ⟨s,hS⟩:∃ s:ByteArray,s=⟨(a0::a1::a2::a3::a4::a5::a6::a7::l).toArray⟩:=⟨_,rfl⟩
 have hz:s.size=l.length+8:=by rw [hS,str_size]; simp
 have hmx:(s.size:Int)≤9223372036854775807:=by rw [hz]; simp only [List.length_cons,maxLen] at hs; omega
 have hk8:(8:Int)≤(s.size:Int):=by omega
 have hB:=h.lt
 have hne0:w.heap.size≠B:=by omega
 have H0:=hide (h.alloc (.cells #[.int .u16 0,.int .u16 0,.string ⟨#[]⟩] 98))
 have G0:=hide (grown_alloc (grown_refl w (some B)) (.cells #[.int .u16 0,.int .u16 0,.string ⟨#[]⟩] 98))
 have R0:Hid ((w.alloc (.cells #[.int .u16 0,.int .u16 0,.string ⟨#[]⟩] 98)).heap[w.heap.size]?=some (.cells #[.int .u16 0,.int .u16 0,.string ⟨#[]⟩] 98 (0,0))):=heap_alloc_new w _
 have hc0:(w.alloc (.cells #[.int .u16 0,.int .u16 0,.string ⟨#[]⟩] 98)).cell? ⟨B,0,none⟩=some (.string s):=by rw [hS]; exact cell_of_one (unhide H0)
 have hn0:(8:Int)≤((a0::a1::a2::a3::a4::a5::a6::a7::l).length:Int):=by simp only [List.length_cons]; omega
 have HN0:=hide hn0
 clear h hn0
 have T1:=hide (fun u hu=>word_ok B a0 a1 (a2::a3::a4::a5::a6::a7::l) u hu (by simp only [List.length_cons,maxLen] at hs ⊢; omega))
 have T2:=hide (fun u hu=>word_ok B a2 a3 (a4::a5::a6::a7::l) u hu (by simp only [List.length_cons,maxLen] at hs ⊢; omega))
 obtain ⟨x0,hx0⟩:∃ x,x=(256*(a0.toNat:Int)+(a1.toNat:Int)):=⟨_,rfl⟩
 obtain ⟨x2,hx2⟩:∃ x,x=(256*(a2.toNat:Int)+(a3.toNat:Int)):=⟨_,rfl⟩
 rw [← hx0] at T1 ⊢
 rw [← hx2] at T2 ⊢
 have T3:=(fun u hu=>length_ok B a4 a5 (a6::a7::l) 8 (s.size:Int) u hu (by simp only [List.length_cons,maxLen] at hs ⊢; omega) (by omega) (by omega))
 rw [hn] at T3
 have T3:=hide T3
 have T4:=(fun u hu=>word_ok B a6 a7 l u hu (by simp only [List.length_cons,maxLen] at hs ⊢; omega))
 have hm1:(m:Int)≤(s.size:Int):=by omega
 rw [hq0] at T4
 have T4:=hide T4
 have T5:=hide (fun u hu=>text_ok B l k u hu (by omega) (by omega))
 have hq:IntKind.i64.wrap ((m:Int) - 8)=(k:Int):=by rw [wrap_i64 _ (by omega) (by omega)]; omega
 have hq2:(m:Int) - 8=(k:Int):=by omega
 clear hS hz hx0 hx2 hn hmk
 go_enter Tryz.func212,Tryz.ntmps212
 go_wp2_with fail
 refine (need_ok _ _ _ _ (unhide H0) (unhide HN0)).mono ?_
 rintro ee wz ⟨rfl,hwz⟩
 rw [hwz]
 clear hwz wz
 have hneV:w.heap.size+1≠B:=by omega
 have hlt0:w.heap.size<w.heap.size+1:=by omega
 have H1:=hide ((unhide H0).alloc (.cells #[.int .u16 0,.int .u16 0,.string ⟨#[]⟩] 98))
 have G1:=hide (grown_alloc (unhide G0) (.cells #[.int .u16 0,.int .u16 0,.string ⟨#[]⟩] 98))
 have E1:Hid (((w.alloc (.cells #[.int .u16 0,.int .u16 0,.string ⟨#[]⟩] 98)).alloc (.cells #[.int .u16 0,.int .u16 0,.string ⟨#[]⟩] 98)).heap[w.heap.size+1]?=some (.cells #[.int .u16 0,.int .u16 0,.string ⟨#[]⟩] 98 (0,0))):=by
  have q:=heap_alloc_new (w.alloc (.cells #[.int .u16 0,.int .u16 0,.string ⟨#[]⟩] 98)) (.cells #[.int .u16 0,.int .u16 0,.string ⟨#[]⟩] 98)
  rw [show (w.alloc (.cells #[.int .u16 0,.int .u16 0,.string ⟨#[]⟩] 98)).heap.size=w.heap.size+1 by simp] at q
  exact q
 have R1:Hid (((w.alloc (.cells #[.int .u16 0,.int .u16 0,.string ⟨#[]⟩] 98)).alloc (.cells #[.int .u16 0,.int .u16 0,.string ⟨#[]⟩] 98)).heap[w.heap.size]?=some (.cells #[.int .u16 0,.int .u16 0,.string ⟨#[]⟩] 98 (0,0))):=by
  show _=_
  rw [Below.heap_alloc _ _ _ (by simp)]
  exact unhide R0
 clear H0 G0 R0
 go_wp2_with fail
 refine (unhide T1 _ (unhide H1)).mono ?_
 rintro ee w2 ⟨rfl,k2,g2⟩
 have hr:w2.heap[w.heap.size]?=some (.cells #[.int .u16 0,.int .u16 0,.string ⟨#[]⟩] 98 (0,0)):=(g2.block _ (lt_of_block (unhide R1)) (fun q=>hne0 (by simpa using q))).trans (unhide R1)
 have he:w2.heap[w.heap.size+1]?=some (.cells #[.int .u16 0,.int .u16 0,.string ⟨#[]⟩] 98 (0,0)):=(g2.block _ (lt_of_block (unhide E1)) (fun q=>hneV (by simpa using q))).trans (unhide E1)
 have c2_0:w2.cell? ⟨w.heap.size+1,0,none⟩=some (.int .u16 0):=row_cell he rfl
 have f2:=row_free he
 have E2:Hid ((w2.setCell ⟨w.heap.size+1,0,none⟩ (.int .u16 x0)).heap[w.heap.size+1]?=some (.cells #[.int .u16 x0,.int .u16 0,.string ⟨#[]⟩] 98 (0,0))):=row_set he 0 (.int .u16 x0)
 have H2:Hid (Rdr (w2.setCell ⟨w.heap.size+1,0,none⟩ (.int .u16 x0)) B (a2::a3::a4::a5::a6::a7::l)):=other k2 hneV.symm _
 have G2:Hid (w.grownBy (w2.setCell ⟨w.heap.size+1,0,none⟩ (.int .u16 x0)) (some B)):=grown_new (grown_trans (unhide G1) g2) (Nat.le_of_lt hlt0) _
 have R2:Hid ((w2.setCell ⟨w.heap.size+1,0,none⟩ (.int .u16 x0)).heap[w.heap.size]?=some (.cells #[.int .u16 0,.int .u16 0,.string ⟨#[]⟩] 98 (0,0))):=by
  show _=_
  rw [Below.heap_setCell _ _ _ _ (Nat.ne_of_lt hlt0)]; exact hr
 clear hr k2 g2 H1 G1 R1 he E1
 go_wp2_with fail
 refine (unhide T2 _ (unhide H2)).mono ?_
 rintro ee w3 ⟨rfl,k3,g3⟩
 have hr:w3.heap[w.heap.size]?=some (.cells #[.int .u16 0,.int .u16 0,.string ⟨#[]⟩] 98 (0,0)):=(g3.block _ (lt_of_block (unhide R2)) (fun q=>hne0 (by simpa using q))).trans (unhide R2)
 have he:w3.heap[w.heap.size+1]?=some (.cells #[.int .u16 x0,.int .u16 0,.string ⟨#[]⟩] 98 (0,0)):=(g3.block _ (lt_of_block (unhide E2)) (fun q=>hneV (by simpa using q))).trans (unhide E2)
 have c3_1:w3.cell? ⟨w.heap.size+1,1,none⟩=some (.int .u16 0):=row_cell he rfl
 have f3:=row_free he
 have E3:Hid ((w3.setCell ⟨w.heap.size+1,1,none⟩ (.int .u16 x2)).heap[w.heap.size+1]?=some (.cells #[.int .u16 x0,.int .u16 x2,.string ⟨#[]⟩] 98 (0,0))):=row_set he 1 (.int .u16 x2)
 have H3:Hid (Rdr (w3.setCell ⟨w.heap.size+1,1,none⟩ (.int .u16 x2)) B (a4::a5::a6::a7::l)):=other k3 hneV.symm _
 have G3:Hid (w.grownBy (w3.setCell ⟨w.heap.size+1,1,none⟩ (.int .u16 x2)) (some B)):=grown_new (grown_trans (unhide G2) g3) (Nat.le_of_lt hlt0) _
 have R3:Hid ((w3.setCell ⟨w.heap.size+1,1,none⟩ (.int .u16 x2)).heap[w.heap.size]?=some (.cells #[.int .u16 0,.int .u16 0,.string ⟨#[]⟩] 98 (0,0))):=by
  show _=_
  rw [Below.heap_setCell _ _ _ _ (Nat.ne_of_lt hlt0)]; exact hr
 clear hr k3 g3 H2 G2 R2 he E2
 go_wp2_with fail
 refine (unhide T3 _ (unhide H3)).mono ?_
 rintro ee w4 ⟨rfl,k4,g4⟩
 have hr:w4.heap[w.heap.size]?=some (.cells #[.int .u16 0,.int .u16 0,.string ⟨#[]⟩] 98 (0,0)):=(g4.block _ (lt_of_block (unhide R3)) (fun q=>hne0 (by simpa using q))).trans (unhide R3)
 have he:w4.heap[w.heap.size+1]?=some (.cells #[.int .u16 x0,.int .u16 x2,.string ⟨#[]⟩] 98 (0,0)):=(g4.block _ (lt_of_block (unhide E3)) (fun q=>hneV (by simpa using q))).trans (unhide E3)
 have H4:=hide k4
 have G4:=hide (grown_trans (unhide G3) g4)
 have R4:=hide hr
 have E4:=hide he
 clear hr k4 g4 H3 G3 R3 he E3
 go_wp2_with fail
 refine (unhide T4 _ (unhide H4)).mono ?_
 rintro ee w5 ⟨rfl,k5,g5⟩
 have hr:w5.heap[w.heap.size]?=some (.cells #[.int .u16 0,.int .u16 0,.string ⟨#[]⟩] 98 (0,0)):=(g5.block _ (lt_of_block (unhide R4)) (fun q=>hne0 (by simpa using q))).trans (unhide R4)
 have he:w5.heap[w.heap.size+1]?=some (.cells #[.int .u16 x0,.int .u16 x2,.string ⟨#[]⟩] 98 (0,0)):=(g5.block _ (lt_of_block (unhide E4)) (fun q=>hneV (by simpa using q))).trans (unhide E4)
 have H5:=hide k5
 have G5:=hide (grown_trans (unhide G4) g5)
 have R5:=hide hr
 have E5:=hide he
 clear hr k5 g5 H4 G4 R4 he E4
 go_wp2_with fail
 refine (must_if _ (by simp) _ _).mono ?_
 rintro ee wz ⟨rfl,hwz⟩
 rw [hwz]
 clear hwz wz
 go_wp2_with fail
 refine (unhide T5 _ (unhide H5)).mono ?_
 rintro ee w6 ⟨rfl,k6,g6⟩
 have hr:w6.heap[w.heap.size]?=some (.cells #[.int .u16 0,.int .u16 0,.string ⟨#[]⟩] 98 (0,0)):=(g6.block _ (lt_of_block (unhide R5)) (fun q=>hne0 (by simpa using q))).trans (unhide R5)
 have he:w6.heap[w.heap.size+1]?=some (.cells #[.int .u16 x0,.int .u16 x2,.string ⟨#[]⟩] 98 (0,0)):=(g6.block _ (lt_of_block (unhide E5)) (fun q=>hneV (by simpa using q))).trans (unhide E5)
 have c6_0:w6.cell? ⟨w.heap.size+1,0,none⟩=some (.int .u16 x0):=row_cell he rfl
 have c6_1:w6.cell? ⟨w.heap.size+1,1,none⟩=some (.int .u16 x2):=row_cell he rfl
 have c6_2:w6.cell? ⟨w.heap.size+1,2,none⟩=some (.string ⟨#[]⟩):=row_cell he rfl
 have f6:=row_free he
 have d0:w6.cell? ⟨w.heap.size,0,none⟩=some (.int .u16 0):=row_cell hr rfl
 have d1:w6.cell? ⟨w.heap.size,1,none⟩=some (.int .u16 0):=row_cell hr rfl
 have d2:w6.cell? ⟨w.heap.size,2,none⟩=some (.string ⟨#[]⟩):=row_cell hr rfl
 have kd:=row_free hr
 have E6:Hid ((w6.setCell ⟨w.heap.size+1,2,none⟩ (.string ⟨(l.take k).toArray⟩)).heap[w.heap.size+1]?=some (.cells #[.int .u16 x0,.int .u16 x2,.string ⟨(l.take k).toArray⟩] 98 (0,0))):=row_set he 2 (.string ⟨(l.take k).toArray⟩)
 have H6:Hid (Rdr (w6.setCell ⟨w.heap.size+1,2,none⟩ (.string ⟨(l.take k).toArray⟩)) B (l.drop k)):=other k6 hneV.symm _
 have G6:Hid (w.grownBy (w6.setCell ⟨w.heap.size+1,2,none⟩ (.string ⟨(l.take k).toArray⟩)) (some B)):=grown_new (grown_trans (unhide G5) g6) (Nat.le_of_lt hlt0) _
 have R6:Hid ((w6.setCell ⟨w.heap.size+1,2,none⟩ (.string ⟨(l.take k).toArray⟩)).heap[w.heap.size]?=some (.cells #[.int .u16 0,.int .u16 0,.string ⟨#[]⟩] 98 (0,0))):=by
  show _=_
  rw [Below.heap_setCell _ _ _ _ (Nat.ne_of_lt hlt0)]; exact hr
 clear hr k6 g6 H5 G5 R5 he E5
 go_wp2
 refine bodyPost_ret (v:=.agg #[.int .u16 x0,.int .u16 x2,.string ⟨(l.take k).toArray⟩]) (by simp [results,Tryz.results212,go_sem,d0,d1,d2]) rfl ⟨rfl,?_⟩
 iterate 3 refine grown_new ?_ (Nat.le_refl _) _
 exact unhide G6

set_option maxHeartbeats 2000000 in
theorem udp_ok1 (B:Nat) (a0 a1 a2 a3 a4 a5 a6 a7:UInt8) (l:List UInt8) (fr ta:Int) (w:World) (h:Rdr w B (a0::a1::a2::a3::a4::a5::a6::a7::l)) (hs:(a0::a1::a2::a3::a4::a5::a6::a7::l).length≤maxLen) (hf:0≤fr∧fr≤4294967295) (ho:0≤ta∧ta≤4294967295) (m k:Nat) (hmk:m=8+k) (hn:(256*(a4.toNat:Int)+(a5.toNat:Int))=(m:Int)) (hk:k≤l.length) (hm:m≤65535) (hq0:(256*(a6.toNat:Int)+(a7.toNat:Int))≠0) (hsum:chk (udpP fr ta (m:Int)++(a0::a1::a2::a3::a4::a5::a6::a7::l).take m)=0) (hL:l.length≤1099511627776) :
  Calls Tryz.prog 212 #[.pointer (some ⟨B,0,none⟩),.int .u32 fr,.int .u32 ta] w fun ee w'=>ee=.returned (.agg #[.int .u16 (256*(a0.toNat:Int)+(a1.toNat:Int)),.int .u16 (256*(a2.toNat:Int)+(a3.toNat:Int)),.string ⟨(l.take k).toArray⟩])∧w.grownBy w' (some B):=by
 obtain ⟨s,hS⟩:∃ s:ByteArray,s=⟨(a0::a1::a2::a3::a4::a5::a6::a7::l).toArray⟩:=⟨_,rfl⟩
 have hz:s.size=l.length+8:=by rw [hS,str_size]; simp
 have hmx:(s.size:Int)≤9223372036854775807:=by rw [hz]; simp only [List.length_cons,maxLen] at hs; omega
 have hk8:(8:Int)≤(s.size:Int):=by omega
 have hB:=h.lt
 have hne0:w.heap.size≠B:=by omega
 have H0:=hide (h.alloc (.cells #[.int .u16 0,.int .u16 0,.string ⟨#[]⟩] 98))
 have G0:=hide (grown_alloc (grown_refl w (some B)) (.cells #[.int .u16 0,.int .u16 0,.string ⟨#[]⟩] 98))
 have R0:Hid ((w.alloc (.cells #[.int .u16 0,.int .u16 0,.string ⟨#[]⟩] 98)).heap[w.heap.size]?=some (.cells #[.int .u16 0,.int .u16 0,.string ⟨#[]⟩] 98 (0,0))):=heap_alloc_new w _
 have hc0:(w.alloc (.cells #[.int .u16 0,.int .u16 0,.string ⟨#[]⟩] 98)).cell? ⟨B,0,none⟩=some (.string s):=by rw [hS]; exact cell_of_one (unhide H0)
 have hn0:(8:Int)≤((a0::a1::a2::a3::a4::a5::a6::a7::l).length:Int):=by simp only [List.length_cons]; omega
 have HN0:=hide hn0
 clear h hn0
 have T1:=hide (fun u hu=>word_ok B a0 a1 (a2::a3::a4::a5::a6::a7::l) u hu (by simp only [List.length_cons,maxLen] at hs ⊢; omega))
 have T2:=hide (fun u hu=>word_ok B a2 a3 (a4::a5::a6::a7::l) u hu (by simp only [List.length_cons,maxLen] at hs ⊢; omega))
 obtain ⟨x0,hx0⟩:∃ x,x=(256*(a0.toNat:Int)+(a1.toNat:Int)):=⟨_,rfl⟩
 obtain ⟨x2,hx2⟩:∃ x,x=(256*(a2.toNat:Int)+(a3.toNat:Int)):=⟨_,rfl⟩
 rw [← hx0] at T1 ⊢
 rw [← hx2] at T2 ⊢
 have T3:=(fun u hu=>length_ok B a4 a5 (a6::a7::l) 8 (s.size:Int) u hu (by simp only [List.length_cons,maxLen] at hs ⊢; omega) (by omega) (by omega))
 rw [hn] at T3
 have T3:=hide T3
 have T4:=(fun u hu=>word_ok B a6 a7 l u hu (by simp only [List.length_cons,maxLen] at hs ⊢; omega))
 have hm1:(m:Int)≤(s.size:Int):=by omega
 obtain ⟨x6,hx6⟩:∃ x,x=(256*(a6.toNat:Int)+(a7.toNat:Int)):=⟨_,rfl⟩
 rw [← hx6] at T4 hq0
 have hqn:(x6==0)=false:=by simpa using hq0
 have TC:=(fun u=>udpCheck_any (s.extract 0 m) fr ta u (by rw [ByteArray.size_extract]; omega) hf ho)
 have esz:((s.extract 0 m).size:Int)=(m:Int):=by rw [ByteArray.size_extract]; omega
 have edt:(s.extract 0 m).data.toList=(a0::a1::a2::a3::a4::a5::a6::a7::l).take m:=by rw [hS,str_take]
 rw [esz,edt] at TC
 obtain ⟨c,hc⟩:∃ c,c=chk (udpP fr ta (m:Int)++(a0::a1::a2::a3::a4::a5::a6::a7::l).take m):=⟨_,rfl⟩
 rw [← hc] at TC hsum
 have TC:=hide TC
 subst hsum
 clear esz edt hc hx6
 have T4:=hide T4
 have T5:=hide (fun u hu=>text_ok B l k u hu (by omega) (by omega))
 have hq:IntKind.i64.wrap ((m:Int) - 8)=(k:Int):=by rw [wrap_i64 _ (by omega) (by omega)]; omega
 have hq2:(m:Int) - 8=(k:Int):=by omega
 clear hS hz hx0 hx2 hn hmk
 go_enter Tryz.func212,Tryz.ntmps212
 go_wp2_with fail
 refine (need_ok _ _ _ _ (unhide H0) (unhide HN0)).mono ?_
 rintro ee wz ⟨rfl,hwz⟩
 rw [hwz]
 clear hwz wz
 have hneV:w.heap.size+1≠B:=by omega
 have hlt0:w.heap.size<w.heap.size+1:=by omega
 have H1:=hide ((unhide H0).alloc (.cells #[.int .u16 0,.int .u16 0,.string ⟨#[]⟩] 98))
 have G1:=hide (grown_alloc (unhide G0) (.cells #[.int .u16 0,.int .u16 0,.string ⟨#[]⟩] 98))
 have E1:Hid (((w.alloc (.cells #[.int .u16 0,.int .u16 0,.string ⟨#[]⟩] 98)).alloc (.cells #[.int .u16 0,.int .u16 0,.string ⟨#[]⟩] 98)).heap[w.heap.size+1]?=some (.cells #[.int .u16 0,.int .u16 0,.string ⟨#[]⟩] 98 (0,0))):=by
  have q:=heap_alloc_new (w.alloc (.cells #[.int .u16 0,.int .u16 0,.string ⟨#[]⟩] 98)) (.cells #[.int .u16 0,.int .u16 0,.string ⟨#[]⟩] 98)
  rw [show (w.alloc (.cells #[.int .u16 0,.int .u16 0,.string ⟨#[]⟩] 98)).heap.size=w.heap.size+1 by simp] at q
  exact q
 have R1:Hid (((w.alloc (.cells #[.int .u16 0,.int .u16 0,.string ⟨#[]⟩] 98)).alloc (.cells #[.int .u16 0,.int .u16 0,.string ⟨#[]⟩] 98)).heap[w.heap.size]?=some (.cells #[.int .u16 0,.int .u16 0,.string ⟨#[]⟩] 98 (0,0))):=by
  show _=_
  rw [Below.heap_alloc _ _ _ (by simp)]
  exact unhide R0
 clear H0 G0 R0
 go_wp2_with fail
 refine (unhide T1 _ (unhide H1)).mono ?_
 rintro ee w2 ⟨rfl,k2,g2⟩
 have hr:w2.heap[w.heap.size]?=some (.cells #[.int .u16 0,.int .u16 0,.string ⟨#[]⟩] 98 (0,0)):=(g2.block _ (lt_of_block (unhide R1)) (fun q=>hne0 (by simpa using q))).trans (unhide R1)
 have he:w2.heap[w.heap.size+1]?=some (.cells #[.int .u16 0,.int .u16 0,.string ⟨#[]⟩] 98 (0,0)):=(g2.block _ (lt_of_block (unhide E1)) (fun q=>hneV (by simpa using q))).trans (unhide E1)
 have c2_0:w2.cell? ⟨w.heap.size+1,0,none⟩=some (.int .u16 0):=row_cell he rfl
 have f2:=row_free he
 have E2:Hid ((w2.setCell ⟨w.heap.size+1,0,none⟩ (.int .u16 x0)).heap[w.heap.size+1]?=some (.cells #[.int .u16 x0,.int .u16 0,.string ⟨#[]⟩] 98 (0,0))):=row_set he 0 (.int .u16 x0)
 have H2:Hid (Rdr (w2.setCell ⟨w.heap.size+1,0,none⟩ (.int .u16 x0)) B (a2::a3::a4::a5::a6::a7::l)):=other k2 hneV.symm _
 have G2:Hid (w.grownBy (w2.setCell ⟨w.heap.size+1,0,none⟩ (.int .u16 x0)) (some B)):=grown_new (grown_trans (unhide G1) g2) (Nat.le_of_lt hlt0) _
 have R2:Hid ((w2.setCell ⟨w.heap.size+1,0,none⟩ (.int .u16 x0)).heap[w.heap.size]?=some (.cells #[.int .u16 0,.int .u16 0,.string ⟨#[]⟩] 98 (0,0))):=by
  show _=_
  rw [Below.heap_setCell _ _ _ _ (Nat.ne_of_lt hlt0)]; exact hr
 clear hr k2 g2 H1 G1 R1 he E1
 go_wp2_with fail
 refine (unhide T2 _ (unhide H2)).mono ?_
 rintro ee w3 ⟨rfl,k3,g3⟩
 have hr:w3.heap[w.heap.size]?=some (.cells #[.int .u16 0,.int .u16 0,.string ⟨#[]⟩] 98 (0,0)):=(g3.block _ (lt_of_block (unhide R2)) (fun q=>hne0 (by simpa using q))).trans (unhide R2)
 have he:w3.heap[w.heap.size+1]?=some (.cells #[.int .u16 x0,.int .u16 0,.string ⟨#[]⟩] 98 (0,0)):=(g3.block _ (lt_of_block (unhide E2)) (fun q=>hneV (by simpa using q))).trans (unhide E2)
 have c3_1:w3.cell? ⟨w.heap.size+1,1,none⟩=some (.int .u16 0):=row_cell he rfl
 have f3:=row_free he
 have E3:Hid ((w3.setCell ⟨w.heap.size+1,1,none⟩ (.int .u16 x2)).heap[w.heap.size+1]?=some (.cells #[.int .u16 x0,.int .u16 x2,.string ⟨#[]⟩] 98 (0,0))):=row_set he 1 (.int .u16 x2)
 have H3:Hid (Rdr (w3.setCell ⟨w.heap.size+1,1,none⟩ (.int .u16 x2)) B (a4::a5::a6::a7::l)):=other k3 hneV.symm _
 have G3:Hid (w.grownBy (w3.setCell ⟨w.heap.size+1,1,none⟩ (.int .u16 x2)) (some B)):=grown_new (grown_trans (unhide G2) g3) (Nat.le_of_lt hlt0) _
 have R3:Hid ((w3.setCell ⟨w.heap.size+1,1,none⟩ (.int .u16 x2)).heap[w.heap.size]?=some (.cells #[.int .u16 0,.int .u16 0,.string ⟨#[]⟩] 98 (0,0))):=by
  show _=_
  rw [Below.heap_setCell _ _ _ _ (Nat.ne_of_lt hlt0)]; exact hr
 clear hr k3 g3 H2 G2 R2 he E2
 go_wp2_with fail
 refine (unhide T3 _ (unhide H3)).mono ?_
 rintro ee w4 ⟨rfl,k4,g4⟩
 have hr:w4.heap[w.heap.size]?=some (.cells #[.int .u16 0,.int .u16 0,.string ⟨#[]⟩] 98 (0,0)):=(g4.block _ (lt_of_block (unhide R3)) (fun q=>hne0 (by simpa using q))).trans (unhide R3)
 have he:w4.heap[w.heap.size+1]?=some (.cells #[.int .u16 x0,.int .u16 x2,.string ⟨#[]⟩] 98 (0,0)):=(g4.block _ (lt_of_block (unhide E3)) (fun q=>hneV (by simpa using q))).trans (unhide E3)
 have H4:=hide k4
 have G4:=hide (grown_trans (unhide G3) g4)
 have R4:=hide hr
 have E4:=hide he
 clear hr k4 g4 H3 G3 R3 he E3
 go_wp2_with fail
 refine (unhide T4 _ (unhide H4)).mono ?_
 rintro ee w5 ⟨rfl,k5,g5⟩
 have hr:w5.heap[w.heap.size]?=some (.cells #[.int .u16 0,.int .u16 0,.string ⟨#[]⟩] 98 (0,0)):=(g5.block _ (lt_of_block (unhide R4)) (fun q=>hne0 (by simpa using q))).trans (unhide R4)
 have he:w5.heap[w.heap.size+1]?=some (.cells #[.int .u16 x0,.int .u16 x2,.string ⟨#[]⟩] 98 (0,0)):=(g5.block _ (lt_of_block (unhide E4)) (fun q=>hneV (by simpa using q))).trans (unhide E4)
 have H5:=hide k5
 have G5:=hide (grown_trans (unhide G4) g5)
 have R5:=hide hr
 have E5:=hide he
 clear hr k5 g5 H4 G4 R4 he E4
 go_wp2_with fail
 refine (unhide TC _).mono ?_
 rintro ee w6 ⟨rfl,b6⟩
 have H6:Hid (Rdr w6 B (l)):=(b6.block _ (lt_of_block (unhide H5))).trans (unhide H5)
 have G6:=hide (grown_below (unhide G5) b6)
 have R6:=hide ((b6.block _ (lt_of_block (unhide R5))).trans (unhide R5))
 have E6:=hide ((b6.block _ (lt_of_block (unhide E5))).trans (unhide E5))
 clear b6 H5 G5 R5 E5
 go_wp2_with fail
 refine (must_if _ (by simp) _ _).mono ?_
 rintro ee wz ⟨rfl,hwz⟩
 rw [hwz]
 clear hwz wz
 go_wp2_with fail
 refine (unhide T5 _ (unhide H6)).mono ?_
 rintro ee w7 ⟨rfl,k7,g7⟩
 have hr:w7.heap[w.heap.size]?=some (.cells #[.int .u16 0,.int .u16 0,.string ⟨#[]⟩] 98 (0,0)):=(g7.block _ (lt_of_block (unhide R6)) (fun q=>hne0 (by simpa using q))).trans (unhide R6)
 have he:w7.heap[w.heap.size+1]?=some (.cells #[.int .u16 x0,.int .u16 x2,.string ⟨#[]⟩] 98 (0,0)):=(g7.block _ (lt_of_block (unhide E6)) (fun q=>hneV (by simpa using q))).trans (unhide E6)
 have c7_0:w7.cell? ⟨w.heap.size+1,0,none⟩=some (.int .u16 x0):=row_cell he rfl
 have c7_1:w7.cell? ⟨w.heap.size+1,1,none⟩=some (.int .u16 x2):=row_cell he rfl
 have c7_2:w7.cell? ⟨w.heap.size+1,2,none⟩=some (.string ⟨#[]⟩):=row_cell he rfl
 have f7:=row_free he
 have d0:w7.cell? ⟨w.heap.size,0,none⟩=some (.int .u16 0):=row_cell hr rfl
 have d1:w7.cell? ⟨w.heap.size,1,none⟩=some (.int .u16 0):=row_cell hr rfl
 have d2:w7.cell? ⟨w.heap.size,2,none⟩=some (.string ⟨#[]⟩):=row_cell hr rfl
 have kd:=row_free hr
 have E7:Hid ((w7.setCell ⟨w.heap.size+1,2,none⟩ (.string ⟨(l.take k).toArray⟩)).heap[w.heap.size+1]?=some (.cells #[.int .u16 x0,.int .u16 x2,.string ⟨(l.take k).toArray⟩] 98 (0,0))):=row_set he 2 (.string ⟨(l.take k).toArray⟩)
 have H7:Hid (Rdr (w7.setCell ⟨w.heap.size+1,2,none⟩ (.string ⟨(l.take k).toArray⟩)) B (l.drop k)):=other k7 hneV.symm _
 have G7:Hid (w.grownBy (w7.setCell ⟨w.heap.size+1,2,none⟩ (.string ⟨(l.take k).toArray⟩)) (some B)):=grown_new (grown_trans (unhide G6) g7) (Nat.le_of_lt hlt0) _
 have R7:Hid ((w7.setCell ⟨w.heap.size+1,2,none⟩ (.string ⟨(l.take k).toArray⟩)).heap[w.heap.size]?=some (.cells #[.int .u16 0,.int .u16 0,.string ⟨#[]⟩] 98 (0,0))):=by
  show _=_
  rw [Below.heap_setCell _ _ _ _ (Nat.ne_of_lt hlt0)]; exact hr
 clear hr k7 g7 H6 G6 R6 he E6
 go_wp2
 refine bodyPost_ret (v:=.agg #[.int .u16 x0,.int .u16 x2,.string ⟨(l.take k).toArray⟩]) (by simp [results,Tryz.results212,go_sem,d0,d1,d2]) rfl ⟨rfl,?_⟩
 iterate 3 refine grown_new ?_ (Nat.le_refl _) _
 exact unhide G7

set_option maxHeartbeats 1000000 in
theorem clo_no (B c1 c2:Nat) (fr ta k:Int) (L:List UInt8) (w:World) (h:Rdr w B L) (l1:c1<w.heap.size) (l2:c2<w.heap.size) (h1:w.cell? ⟨c1,0,none⟩=some (.int .u32 fr)) (h2:w.cell? ⟨c2,0,none⟩=some (.int .u32 ta))
  (hU:∀ u,Rdr u B L→Calls Tryz.prog 212 #[.pointer (some ⟨B,0,none⟩),.int .u32 fr,.int .u32 ta] u fun ee w'=>ee=.panicked (errP k)∧u.grownBy w' (some B)) :
  Calls Tryz.prog 211 #[.pointer (some ⟨B,0,none⟩),.pointer (some ⟨c1,0,none⟩),.pointer (some ⟨c2,0,none⟩)] w fun ee w'=>ee=.panicked (errP k)∧w.grownBy w' (some B):=by
 have HU:=hide (hU _ (h.alloc (.cells #[.int .u16 0,.int .u16 0,.string ⟨#[]⟩] 98)))
 have n1:=(((Below.refl w.heap.size w).alloc (Nat.le_refl _) (.cells #[.int .u16 0,.int .u16 0,.string ⟨#[]⟩] 98)).cell (p:=⟨c1,0,none⟩) l1).trans h1
 have n2:=(((Below.refl w.heap.size w).alloc (Nat.le_refl _) (.cells #[.int .u16 0,.int .u16 0,.string ⟨#[]⟩] 98)).cell (p:=⟨c2,0,none⟩) l2).trans h2
 clear hU h
 go_enter Tryz.func211,Tryz.ntmps211
 go_wp2_with fail
 refine (unhide HU).mono ?_
 rintro ee w1 ⟨rfl,g1⟩
 exact ⟨rfl,rfl,grown_trans (grown_alloc (grown_refl w (some B)) _) g1⟩

set_option maxHeartbeats 1000000 in
theorem clo_ok (B c1 c2:Nat) (fr ta a0 a1:Int) (a2:ByteArray) (L:List UInt8) (w:World) (h:Rdr w B L) (l1:c1<w.heap.size) (l2:c2<w.heap.size) (h1:w.cell? ⟨c1,0,none⟩=some (.int .u32 fr)) (h2:w.cell? ⟨c2,0,none⟩=some (.int .u32 ta))
  (hU:∀ u,Rdr u B L→Calls Tryz.prog 212 #[.pointer (some ⟨B,0,none⟩),.int .u32 fr,.int .u32 ta] u fun ee w'=>ee=.returned (.agg #[.int .u16 a0,.int .u16 a1,.string a2])∧u.grownBy w' (some B)) :
  Calls Tryz.prog 211 #[.pointer (some ⟨B,0,none⟩),.pointer (some ⟨c1,0,none⟩),.pointer (some ⟨c2,0,none⟩)] w fun ee w'=>ee=.returned (.agg #[.int .u16 a0,.int .u16 a1,.string a2])∧w.grownBy w' (some B):=by
 have HU:=hide (hU _ (h.alloc (.cells #[.int .u16 0,.int .u16 0,.string ⟨#[]⟩] 98)))
 have n1:=(((Below.refl w.heap.size w).alloc (Nat.le_refl _) (.cells #[.int .u16 0,.int .u16 0,.string ⟨#[]⟩] 98)).cell (p:=⟨c1,0,none⟩) l1).trans h1
 have n2:=(((Below.refl w.heap.size w).alloc (Nat.le_refl _) (.cells #[.int .u16 0,.int .u16 0,.string ⟨#[]⟩] 98)).cell (p:=⟨c2,0,none⟩) l2).trans h2
 have hB:=h.lt
 have hne0:w.heap.size≠B:=by omega
 clear hU h
 go_enter Tryz.func211,Tryz.ntmps211
 go_wp2_with fail
 refine (unhide HU).mono ?_
 rintro ee w1 ⟨rfl,g1⟩
 have hr:w1.heap[w.heap.size]?=some (.cells #[.int .u16 0,.int .u16 0,.string ⟨#[]⟩] 98 (0,0)):=(g1.block _ (by simp) (fun q=>hne0 (by simpa using q))).trans (heap_alloc_new w _)
 have d0:w1.cell? ⟨w.heap.size,0,none⟩=some (.int .u16 0):=row_cell hr rfl
 have d1:w1.cell? ⟨w.heap.size,1,none⟩=some (.int .u16 0):=row_cell hr rfl
 have d2:w1.cell? ⟨w.heap.size,2,none⟩=some (.string ⟨#[]⟩):=row_cell hr rfl
 have kd:=row_free hr
 have G1:=hide (grown_trans (grown_alloc (grown_refl w (some B)) _) g1)
 clear g1 hr HU
 go_wp2
 refine bodyPost_ret (v:=.agg #[.int .u16 a0,.int .u16 a1,.string a2]) (by simp [results,Tryz.results211,go_sem,d0,d1,d2]) rfl ⟨rfl,?_⟩
 iterate 3 refine grown_new ?_ (Nat.le_refl _) _
 exact unhide G1
end Go.Proofs.YtbhbbeebncmaiaaGreatDoor.UdR
namespace Go.Proofs.YtbhbbeebncmaiaaGreatDoor.UdR
open Go.ChangeShapes Go.WideShapes Go.ChangeAt Go.RowKit Bs Rd
open EtR (row_cell row_free row_set below_of below_at new_reader assert_errno)
set_option linter.unusedVariables false
theorem row_set3 {w:World} {g:Nat} {t:TypeId} (b0 b1 b2 v0 v1 v2:Value) (h:w.heap[g]?=some (.cells #[b0,b1,b2] t (0,0))) :
  (((w.setCell ⟨g,0,none⟩ v0).setCell ⟨g,1,none⟩ v1).setCell ⟨g,2,none⟩ v2).heap[g]?=some (.cells #[v0,v1,v2] t (0,0)):=by
 have h0:(w.setCell ⟨g,0,none⟩ v0).heap[g]?=some (.cells #[v0,b1,b2] t (0,0)):=row_set h 0 v0
 have h1:((w.setCell ⟨g,0,none⟩ v0).setCell ⟨g,1,none⟩ v1).heap[g]?=some (.cells #[v0,v1,b2] t (0,0)):=row_set h0 1 v1
 have h2:(((w.setCell ⟨g,0,none⟩ v0).setCell ⟨g,1,none⟩ v1).setCell ⟨g,2,none⟩ v2).heap[g]?=some (.cells #[v0,v1,v2] t (0,0)):=row_set h1 2 v2
 exact h2

theorem catch_panicking (p:Addr) (x k:Int) (older:List PanicEntry) (w:World) (hc:w.cell? p=some (.int .i64 x)) (hz:w.frozen? p=false) :
  CallsD Tryz.prog 250 #[.pointer (some p)] (.panicking ({ v:=.iface 58 (.int .i64 k),recovered:=false }::older)) w fun e u' w' =>
   e=.returned (.tuple #[])∧u'=.panicking ({ v:=.iface 58 (.int .i64 k),recovered:=true }::older)∧w'=w.setCell p (.int .i64 k):=by
 refine callsD_of_wpS Tryz.func250 rfl fun c₀ cs hu=>?_
 apply wpS_seq
 apply wpS_region
 simp [wpOpsS,go_sem,recoverD,hu,Tryz.ntmps250,Exit.thenS]
 refine wpS_of_wp ?_
 change Code.wp _ _ _ { tmps:=#[.pointer (some p),.iface 58 (.int .i64 k),.iface 58 (.int .i64 k),undef,undef,undef,undef],defers:=[] } _
 have hta:=fun u=>assert_errno k u
 go_wp2
 exact ⟨rfl,_,rfl,.tuple #[],by simp [results,Tryz.results250],rfl,rfl,rfl⟩

theorem catch_idle (p:Addr) (w:World) :
  CallsD Tryz.prog 250 #[.pointer (some p)] .returning w fun e u' w'=>e=.returned (.tuple #[])∧u'=.returning∧w'=w:=by
 refine callsD_of_wpS Tryz.func250 rfl fun c₀ cs hu=>?_
 apply wpS_seq
 apply wpS_region
 simp [wpOpsS,go_sem,recoverD,hu,Tryz.ntmps250,Exit.thenS]
 refine wpS_of_wp ?_
 change Code.wp _ _ _ { tmps:=#[.pointer (some p),.nilIface,.nilIface,undef,undef,undef,undef],defers:=[] } _
 go_wp2
 cases c₀
 simp_all [bodyPostS,results,Tryz.results250]

theorem blocks {w w1 W:World} {s:ByteArray} (g:W.grownBy w1 (some (w.heap.size+1+1))) (hW:W=((w.alloc (.cells #[.int .u16 0,.int .u16 0,.string ⟨#[]⟩] 98)).alloc (.cells #[.int .i64 0] 58)).alloc (.cells #[.string s] 217)) :
  w1.heap[w.heap.size]?=some (.cells #[.int .u16 0,.int .u16 0,.string ⟨#[]⟩] 98 (0,0))∧w1.heap[w.heap.size+1]?=some (.cells #[.int .i64 0] 58 (0,0)):=by
 have z2:((w.alloc (.cells #[.int .u16 0,.int .u16 0,.string ⟨#[]⟩] 98)).alloc (.cells #[.int .i64 0] 58)).heap.size=w.heap.size+1+1:=by simp
 have z1:(w.alloc (.cells #[.int .u16 0,.int .u16 0,.string ⟨#[]⟩] 98)).heap.size=w.heap.size+1:=by simp
 have e0:W.heap[w.heap.size]?=some (.cells #[.int .u16 0,.int .u16 0,.string ⟨#[]⟩] 98 (0,0)):=by
  rw [hW,Below.heap_alloc _ _ _ (by omega),Below.heap_alloc _ _ _ (by omega)]; exact heap_alloc_new w _
 have e1:W.heap[w.heap.size+1]?=some (.cells #[.int .i64 0] 58 (0,0)):=by
  rw [hW,Below.heap_alloc _ _ _ (by omega)]
  have q:=heap_alloc_new (w.alloc (.cells #[.int .u16 0,.int .u16 0,.string ⟨#[]⟩] 98)) (.cells #[.int .i64 0] 58)
  rw [z1] at q
  exact q
 exact ⟨(g.block _ (lt_of_block e0) (fun q=>by simp at q; omega)).trans e0,(g.block _ (lt_of_block e1) (fun q=>by simp at q)).trans e1⟩

set_option maxHeartbeats 1000000 in
theorem read_no (s:ByteArray) (c1 c2:Nat) (k:Int) (w:World)
  (hR:∀ u B,Rdr u B s.data.toList→(∀ b o,b<w.heap.size→u.cell? ⟨b,o,none⟩=w.cell? ⟨b,o,none⟩)→Calls Tryz.prog 211 #[.pointer (some ⟨B,0,none⟩),.pointer (some ⟨c1,0,none⟩),.pointer (some ⟨c2,0,none⟩)] u fun ee w'=>ee=.panicked (errP k)∧u.grownBy w' (some B)) :
  Calls Tryz.prog 210 #[.string s,.func (.func 211) #[] #[.pointer (some ⟨c1,0,none⟩),.pointer (some ⟨c2,0,none⟩)]] w fun ee w'=>ee=.returned (.tuple #[.agg #[.int .u16 0,.int .u16 0,.string ⟨#[]⟩],.int .i64 k])∧Below w.heap.size w w':=by
 have hmf:∀ (fn:Fn) (first cap:Array Value) (w:World),(Instr.makeFunc fn first cap).run Tryz.prog w=.ok (.func fn first cap) w:=fun _ _ _ _=>rfl
 have HR:=hide hR
 clear hR
 go_enter_defers Tryz.func210,Tryz.ntmps210
 go_wp2_with fail
 refine (unhide HR _ _ (new_reader _ _ s (by simp)) (fun b o hb=>((((Below.refl _ w).alloc (Nat.le_refl _) _).alloc (by simp) _).alloc (by simp; omega) _).cell (p:=⟨b,o,none⟩) hb)).mono ?_
 rintro ee w1 ⟨rfl,g1⟩
 obtain ⟨hr,he⟩:=blocks g1 rfl
 have d0:w1.cell? ⟨w.heap.size,0,none⟩=some (.int .u16 0):=row_cell hr rfl
 have d1:w1.cell? ⟨w.heap.size,1,none⟩=some (.int .u16 0):=row_cell hr rfl
 have d2:w1.cell? ⟨w.heap.size,2,none⟩=some (.string ⟨#[]⟩):=row_cell hr rfl
 have hc:=cell_of_one he
 have hf:=free_of_one he
 refine leaves_cons (f:=250) (args:=#[.pointer (some ⟨w.heap.size+1,0,none⟩)]) (by simp) (by simp [go_sem]) ?_
 refine (catch_panicking ⟨w.heap.size+1,0,none⟩ 0 k [] _ hc hf).mono ?_
 rintro e u' w'' ⟨rfl,rfl,rfl⟩
 simp [Leaves,settle,results,Tryz.results210,go_sem,d0,d1,d2,hc]
 exact (below_of g1 ((((Below.refl _ w).alloc (Nat.le_refl _) _).alloc (by simp) _).alloc (by simp; omega) _) (by omega)).setCell (by simp) _

set_option maxHeartbeats 1000000 in
theorem read_ok (s:ByteArray) (c1 c2:Nat) (a0 a1:Int) (a2:ByteArray) (w:World)
  (hR:∀ u B,Rdr u B s.data.toList→(∀ b o,b<w.heap.size→u.cell? ⟨b,o,none⟩=w.cell? ⟨b,o,none⟩)→Calls Tryz.prog 211 #[.pointer (some ⟨B,0,none⟩),.pointer (some ⟨c1,0,none⟩),.pointer (some ⟨c2,0,none⟩)] u fun ee w'=>ee=.returned (.agg #[.int .u16 a0,.int .u16 a1,.string a2])∧u.grownBy w' (some B)) :
  Calls Tryz.prog 210 #[.string s,.func (.func 211) #[] #[.pointer (some ⟨c1,0,none⟩),.pointer (some ⟨c2,0,none⟩)]] w fun ee w'=>ee=.returned (.tuple #[.agg #[.int .u16 a0,.int .u16 a1,.string a2],.int .i64 0])∧Below w.heap.size w w':=by
 have hmf:∀ (fn:Fn) (first cap:Array Value) (w:World),(Instr.makeFunc fn first cap).run Tryz.prog w=.ok (.func fn first cap) w:=fun _ _ _ _=>rfl
 have HR:=hide hR
 clear hR
 go_enter_defers Tryz.func210,Tryz.ntmps210
 go_wp2_with fail
 refine (unhide HR _ _ (new_reader _ _ s (by simp)) (fun b o hb=>((((Below.refl _ w).alloc (Nat.le_refl _) _).alloc (by simp) _).alloc (by simp; omega) _).cell (p:=⟨b,o,none⟩) hb)).mono ?_
 rintro ee w1 ⟨rfl,g1⟩
 obtain ⟨hr,he⟩:=blocks g1 rfl
 have d0:w1.cell? ⟨w.heap.size,0,none⟩=some (.int .u16 0):=row_cell hr rfl
 have d1:w1.cell? ⟨w.heap.size,1,none⟩=some (.int .u16 0):=row_cell hr rfl
 have d2:w1.cell? ⟨w.heap.size,2,none⟩=some (.string ⟨#[]⟩):=row_cell hr rfl
 have fr:=row_free hr
 have hc:=cell_of_one he
 have hf:=free_of_one he
 have HB:=hide (below_of g1 ((((Below.refl _ w).alloc (Nat.le_refl _) _).alloc (by simp) _).alloc (by simp; omega) _) (by omega))
 obtain ⟨U,hU⟩:∃ U,U=((((w1.setCell ⟨w.heap.size,0,none⟩ (.int .u16 a0)).setCell ⟨w.heap.size,1,none⟩ (.int .u16 a1)).setCell ⟨w.heap.size,2,none⟩ (.string a2)).setCell ⟨w.heap.size+1,0,none⟩ (.int .i64 0)):=⟨_,rfl⟩
 have hu:U.heap[w.heap.size]?=some (.cells #[.int .u16 a0,.int .u16 a1,.string a2] 98 (0,0)):=by
  rw [hU,Below.heap_setCell _ _ _ _ (by simp)]
  exact row_set3 _ _ _ _ _ _ hr
 have u0:U.cell? ⟨w.heap.size,0,none⟩=some (.int .u16 a0):=row_cell hu rfl
 have u1:U.cell? ⟨w.heap.size,1,none⟩=some (.int .u16 a1):=row_cell hu rfl
 have u2:U.cell? ⟨w.heap.size,2,none⟩=some (.string a2):=row_cell hu rfl
 have hv:U.heap[w.heap.size+1]?=some (.cells #[.int .i64 0] 58 (0,0)):=by
  rw [hU]
  refine one_setCell (v:=.int .i64 0) ?_
  rw [Below.heap_setCell _ _ _ _ (by simp),Below.heap_setCell _ _ _ _ (by simp),Below.heap_setCell _ _ _ _ (by simp)]
  exact he
 have HBU:Hid (Below w.heap.size w U):=by
  show Below w.heap.size w U
  rw [hU]
  refine Below.setCell ?_ (by simp) _
  iterate 3 refine below_at ?_
  exact unhide HB
 have uv:=cell_of_one hv
 have HU:=hide hU
 clear g1 hr he hu hv hU
 go_wp2
 rw [← unhide HU]
 clear HU d0 d1 d2 hc hf fr
 refine leaves_cons (f:=250) (args:=#[.pointer (some ⟨w.heap.size+1,0,none⟩)]) (by simp) (by simp [go_sem]) ?_
 refine (catch_idle ⟨w.heap.size+1,0,none⟩ _).mono ?_
 rintro e u' w'' ⟨rfl,rfl,rfl⟩
 simp [Leaves,settle,results,Tryz.results210,go_sem,u0,u1,u2,uv]
 exact unhide HBU

set_option maxHeartbeats 1000000 in
theorem wire_of (s:ByteArray) (a0 a1:Int) (a2:ByteArray) (k:Int) (fr ta:Int) (w:World)
  (hR:∀ u:World,u.cell? ⟨w.heap.size,0,none⟩=some (.int .u32 fr)→u.cell? ⟨w.heap.size+1,0,none⟩=some (.int .u32 ta)→Calls Tryz.prog 210 #[.string s,.func (.func 211) #[] #[.pointer (some ⟨w.heap.size,0,none⟩),.pointer (some ⟨w.heap.size+1,0,none⟩)]] u fun ee w'=>ee=.returned (.tuple #[.agg #[.int .u16 a0,.int .u16 a1,.string a2],.int .i64 k])∧Below u.heap.size u w') :
  Calls Tryz.prog 174 #[.string s,.int .u32 fr,.int .u32 ta] w fun ee w'=>ee=.returned (.tuple #[.agg #[.int .u16 a0,.int .u16 a1,.string a2],.int .i64 k])∧Below w.heap.size w w':=by
 have hmf:∀ (fn:Fn) (first cap:Array Value) (w:World),(Instr.makeFunc fn first cap).run Tryz.prog w=.ok (.func fn first cap) w:=fun _ _ _ _=>rfl
 have HR:=hide hR
 clear hR
 go_enter Tryz.func174,Tryz.ntmps174
 go_wp2_with fail
 refine (unhide HR (((w.alloc (.cells #[.int .u32 fr] 53)).alloc (.cells #[.int .u32 ta] 53)).alloc (.cells #[.int .u16 0,.int .u16 0,.string ⟨#[]⟩] 98)) (by simp [go_sem]) (by simp [go_sem])).mono ?_
 rintro ee w1 ⟨rfl,hb⟩
 have hr:w1.heap[w.heap.size+2]?=some (.cells #[.int .u16 0,.int .u16 0,.string ⟨#[]⟩] 98 (0,0)):=(hb.block _ (by simp)).trans ((by simpa using heap_alloc_new ((w.alloc (.cells #[.int .u32 fr] 53)).alloc (.cells #[.int .u32 ta] 53)) (.cells #[.int .u16 0,.int .u16 0,.string ⟨#[]⟩] 98)))
 have d0:w1.cell? ⟨w.heap.size+2,0,none⟩=some (.int .u16 0):=row_cell hr rfl
 have d1:w1.cell? ⟨w.heap.size+2,1,none⟩=some (.int .u16 0):=row_cell hr rfl
 have d2:w1.cell? ⟨w.heap.size+2,2,none⟩=some (.string ⟨#[]⟩):=row_cell hr rfl
 have fr:=row_free hr
 have HB:Hid (Below w.heap.size w w1):=hide (((((Below.refl _ w).alloc (Nat.le_refl _) _).alloc (by simp) _).alloc (by simp; omega) _).trans (hb.mono (by simp <;> omega)))
 obtain ⟨U,hU⟩:∃ U,U=(((w1.setCell ⟨w.heap.size+2,0,none⟩ (.int .u16 a0)).setCell ⟨w.heap.size+2,1,none⟩ (.int .u16 a1)).setCell ⟨w.heap.size+2,2,none⟩ (.string a2)):=⟨_,rfl⟩
 have hu:U.heap[w.heap.size+2]?=some (.cells #[.int .u16 a0,.int .u16 a1,.string a2] 98 (0,0)):=by
  rw [hU]
  exact row_set3 _ _ _ _ _ _ hr
 have u0:U.cell? ⟨w.heap.size+2,0,none⟩=some (.int .u16 a0):=row_cell hu rfl
 have u1:U.cell? ⟨w.heap.size+2,1,none⟩=some (.int .u16 a1):=row_cell hu rfl
 have u2:U.cell? ⟨w.heap.size+2,2,none⟩=some (.string a2):=row_cell hu rfl
 have HBU:Hid (Below w.heap.size w U):=by
  show Below w.heap.size w U
  rw [hU]
  iterate 3 refine Below.setCell ?_ (by simp) _
  exact unhide HB
 have HU:=hide hU
 clear hr hu hU hb HR
 go_wp2
 rw [← unhide HU]
 clear HU d0 d1 d2 fr
 exact bodyPost_ret (v:=.tuple #[.agg #[.int .u16 a0,.int .u16 a1,.string a2],.int .i64 k]) (by simp [results,Tryz.results174,go_sem,u0,u1,u2]) rfl ⟨rfl,unhide HBU⟩

end Go.Proofs.YtbhbbeebncmaiaaGreatDoor.UdR
namespace Go.Proofs.YtbhbbeebncmaiaaGreatDoor.UdK
open Go.ChangeShapes Go.WideShapes Go.ChangeAt Go.RowKit Bs Rd IpK
open Ip (chk)
open Ud (udpP)
set_option linter.unusedVariables false
def udK (l:List UInt8) (fr ta:Int):Int :=
 if l.length<8 then 1 else if w2 l 4<8 then 2 else if ((l.length:Nat):Int)<w2 l 4 then 1
 else if w2 l 6≠0∧chk (udpP fr ta (w2 l 4)++l.take (w2 l 4).toNat)≠0 then 6 else 0
def udF (l:List UInt8) (fr ta x:Int):Int:=if udK l fr ta=0 then x else 0
def udLd (l:List UInt8) (fr ta:Int):ByteArray:=if udK l fr ta=0 then ⟨((l.drop 8).take ((w2 l 4).toNat - 8)).toArray⟩ else ⟨#[]⟩
theorem udF_err {l:List UInt8} {fr ta k:Int} (h:udK l fr ta=k) (hk:k≠0) (x:Int):udF l fr ta x=0:=by unfold udF; rw [if_neg (by rw [h]; exact hk)]
theorem udLd_err {l:List UInt8} {fr ta k:Int} (h:udK l fr ta=k) (hk:k≠0):udLd l fr ta=⟨#[]⟩:=by unfold udLd; rw [if_neg (by rw [h]; exact hk)]
theorem udF_ok {l:List UInt8} {fr ta:Int} (h:udK l fr ta=0) (x:Int):udF l fr ta x=x:=by unfold udF; rw [if_pos h]
theorem udLd_ok {l:List UInt8} {fr ta:Int} (h:udK l fr ta=0):udLd l fr ta=⟨((l.drop 8).take ((w2 l 4).toNat - 8)).toArray⟩:=by unfold udLd; rw [if_pos h]
theorem eight (l:List UInt8) (h:8≤l.length):∃ a0 a1 a2 a3 a4 a5 a6 a7 r,l=a0::a1::a2::a3::a4::a5::a6::a7::r:=by
 obtain ⟨a0,a1,a2,a3,a4,a5,l1,rfl⟩:=EtR.sixth l (by omega)
 simp only [List.length_cons] at h
 obtain ⟨a6,a7,r,rfl⟩:=EtR.second l1 (by omega)
 exact ⟨a0,a1,a2,a3,a4,a5,a6,a7,r,rfl⟩
end Go.Proofs.YtbhbbeebncmaiaaGreatDoor.UdK
namespace Go.Proofs.YtbhbbeebncmaiaaGreatDoor.UdW
open Go.ChangeShapes Go.WideShapes Go.ChangeAt Go.RowKit Bs Rd IpK UdK
open Ip (chk)
open Ud (udpP)
open Go.Proofs.YtbhbbeebncmaiaaGreatDoor.UdR
set_option linter.unusedVariables false
theorem lt_cell {w:World} {b o:Nat} {v:Value} (h:w.cell? ⟨b,o,none⟩=some v):b<w.heap.size:=by
 by_cases hlt:b<w.heap.size
 ·exact hlt
 ·have hn:w.heap[b]?=none:=by simp; omega
  simp [World.cell?,hn] at h

theorem code_any (s:ByteArray) (L:List UInt8) (hL:s.data.toList=L) (fr ta:Int) (w:World) (hm:s.size≤262144) (hf:0≤fr∧fr≤4294967295) (ho:0≤ta∧ta≤4294967295) :
  Calls Tryz.prog 174 #[.string s,.int .u32 fr,.int .u32 ta] w fun ee w'=>ee=.returned (.tuple #[.agg #[.int .u16 (udF L fr ta (w2 L 0)),.int .u16 (udF L fr ta (w2 L 2)),.string (udLd L fr ta)],.int .i64 (udK L fr ta)])∧Below w.heap.size w w':=by
 have hl:=len_str s
 rw [hL] at hl
 have E:∀ k,udK L fr ta=k→k≠0→(∀ u:World,Calls Tryz.prog 174 #[.string s,.int .u32 fr,.int .u32 ta] u fun ee w'=>ee=.returned (.tuple #[.agg #[.int .u16 0,.int .u16 0,.string ⟨#[]⟩],.int .i64 k])∧Below u.heap.size u w') →
   Calls Tryz.prog 174 #[.string s,.int .u32 fr,.int .u32 ta] w fun ee w'=>ee=.returned (.tuple #[.agg #[.int .u16 (udF L fr ta (w2 L 0)),.int .u16 (udF L fr ta (w2 L 2)),.string (udLd L fr ta)],.int .i64 (udK L fr ta)])∧Below w.heap.size w w':=by
  intro k h0 h1 h2
  rw [udF_err h0 h1,udF_err h0 h1,udLd_err h0 h1,h0]
  exact h2 w
 by_cases hn:L.length<8
 ·exact E 1 (by unfold udK; rw [if_pos hn]) (by decide) (fun u=>wire_of s 0 0 ⟨#[]⟩ 1 fr ta u (fun v c1 c2=>read_no s _ _ 1 v (fun x B h hc=>clo_no B _ _ fr ta 1 L x (by rw [hL] at h; exact h) (lt_cell ((hc _ _ (lt_cell c1)).trans c1)) (lt_cell ((hc _ _ (lt_cell c2)).trans c2)) ((hc _ _ (lt_cell c1)).trans c1) ((hc _ _ (lt_cell c2)).trans c2) (fun y hy=>by exact udp_short B L fr ta y hy hn))))
 ·obtain ⟨a0,a1,a2,a3,a4,a5,a6,a7,r,hlist⟩:=eight L (by omega)
  have heta:=str_eta s
  rw [hL] at heta
  have p4:=a4.toNat_lt
  have p5:=a5.toNat_lt
  have b4:w2 L 4=(256*(a4.toNat:Int)+(a5.toNat:Int)):=by rw [hlist]; rfl
  have b6:w2 L 6=(256*(a6.toNat:Int)+(a7.toNat:Int)):=by rw [hlist]; rfl
  have dr:L.drop 8=r:=by rw [hlist]; rfl
  have ln:L.length=r.length+8:=by rw [hlist]; simp
  have hml:(a0::a1::a2::a3::a4::a5::a6::a7::r).length≤maxLen:=by rw [← hlist]; unfold maxLen; omega
  have hK:udK L fr ta=if w2 L 4<8 then 2 else if ((L.length:Nat):Int)<w2 L 4 then 1
    else if w2 L 6≠0∧chk (udpP fr ta (w2 L 4)++L.take (w2 L 4).toNat)≠0 then 6 else 0:=by unfold udK; rw [if_neg hn]
  rw [b4,b6,ln] at hK
  by_cases h4:(256*(a4.toNat:Int)+(a5.toNat:Int))<8
  ·rw [if_pos h4] at hK
   exact E 2 hK (by decide) (fun u=>wire_of s 0 0 ⟨#[]⟩ 2 fr ta u (fun v c1 c2=>read_no s _ _ 2 v (fun x B h hc=>clo_no B _ _ fr ta 2 L x (by rw [hL] at h; exact h) (lt_cell ((hc _ _ (lt_cell c1)).trans c1)) (lt_cell ((hc _ _ (lt_cell c2)).trans c2)) ((hc _ _ (lt_cell c1)).trans c1) ((hc _ _ (lt_cell c2)).trans c2) (fun y hy=>by rw [hlist] at hy; exact udp_length B a0 a1 a2 a3 a4 a5 a6 a7 r fr ta y hy hml 2 (fun z hz=>length_form B _ _ _ _ _ z hz (by simp only [List.length_cons] at hml ⊢; unfold maxLen at hml ⊢; omega) (by omega))))))
  ·rw [if_neg h4] at hK
   by_cases h5:((r.length+8:Nat):Int)<(256*(a4.toNat:Int)+(a5.toNat:Int))
   ·rw [if_pos h5] at hK
    exact E 1 hK (by decide) (fun u=>wire_of s 0 0 ⟨#[]⟩ 1 fr ta u (fun v c1 c2=>read_no s _ _ 1 v (fun x B h hc=>clo_no B _ _ fr ta 1 L x (by rw [hL] at h; exact h) (lt_cell ((hc _ _ (lt_cell c1)).trans c1)) (lt_cell ((hc _ _ (lt_cell c2)).trans c2)) ((hc _ _ (lt_cell c1)).trans c1) ((hc _ _ (lt_cell c2)).trans c2) (fun y hy=>by rw [hlist] at hy; exact udp_length B a0 a1 a2 a3 a4 a5 a6 a7 r fr ta y hy hml 1 (fun z hz=>length_short B _ _ _ _ _ z hz (by simp only [List.length_cons] at hml ⊢; unfold maxLen at hml ⊢; omega) (by omega) (by omega))))))
   ·rw [if_neg h5] at hK
    obtain ⟨k,hk⟩:∃ k:Nat,(256*(a4.toNat:Int)+(a5.toNat:Int))=8+(k:Int):=⟨((256*(a4.toNat:Int)+(a5.toNat:Int)) - 8).toNat,by omega⟩
    obtain ⟨m,hmk⟩:∃ m:Nat,m=8+k:=⟨_,rfl⟩
    have hnm:(256*(a4.toNat:Int)+(a5.toNat:Int))=(m:Int):=by omega
    have hkr:k≤r.length:=by omega
    have hm6:m≤65535:=by omega
    rw [hnm,Int.toNat_natCast] at hK
    have e5:udK L fr ta=0→udLd L fr ta=⟨(r.take k).toArray⟩:=fun h=>by rw [udLd_ok h,dr,b4,hnm,Int.toNat_natCast,hmk]; congr 3; omega
    have b0:w2 L 0=(256*(a0.toNat:Int)+(a1.toNat:Int)):=by rw [hlist]; rfl
    have b2:w2 L 2=(256*(a2.toNat:Int)+(a3.toNat:Int)):=by rw [hlist]; rfl
    by_cases h6:(256*(a6.toNat:Int)+(a7.toNat:Int))=0
    ·rw [if_neg (fun q=>q.1 h6)] at hK
     rw [udF_ok hK,udF_ok hK,e5 hK,hK,b0,b2]
     refine wire_of s _ _ _ 0 fr ta w (fun v c1 c2=>read_ok s _ _ _ _ _ v (fun x B h hc=>clo_ok B _ _ fr ta _ _ _ L x (by rw [hL] at h; exact h) (lt_cell ((hc _ _ (lt_cell c1)).trans c1)) (lt_cell ((hc _ _ (lt_cell c2)).trans c2)) ((hc _ _ (lt_cell c1)).trans c1) ((hc _ _ (lt_cell c2)).trans c2) (fun y hy=>?_)))
     rw [hlist] at hy
     exact udp_ok0 B a0 a1 a2 a3 a4 a5 a6 a7 r fr ta y hy hml hf ho m k hmk hnm hkr hm6 h6 (by omega)
    ·by_cases h7:chk (udpP fr ta (m:Int)++(a0::a1::a2::a3::a4::a5::a6::a7::r).take m)=0
     ·rw [if_neg (fun q=>q.2 (by rw [hlist]; exact h7))] at hK
      rw [udF_ok hK,udF_ok hK,e5 hK,hK,b0,b2]
      refine wire_of s _ _ _ 0 fr ta w (fun v c1 c2=>read_ok s _ _ _ _ _ v (fun x B h hc=>clo_ok B _ _ fr ta _ _ _ L x (by rw [hL] at h; exact h) (lt_cell ((hc _ _ (lt_cell c1)).trans c1)) (lt_cell ((hc _ _ (lt_cell c2)).trans c2)) ((hc _ _ (lt_cell c1)).trans c1) ((hc _ _ (lt_cell c2)).trans c2) (fun y hy=>?_)))
      rw [hlist] at hy
      exact udp_ok1 B a0 a1 a2 a3 a4 a5 a6 a7 r fr ta y hy hml hf ho m k hmk hnm hkr hm6 h6 h7 (by omega)
     ·rw [if_pos ⟨h6,by rw [hlist]; exact h7⟩] at hK
      exact E 6 hK (by decide) (fun u=>wire_of s 0 0 ⟨#[]⟩ 6 fr ta u (fun v c1 c2=>read_no s _ _ 6 v (fun x B h hc=>clo_no B _ _ fr ta 6 L x (by rw [hL] at h; exact h) (lt_cell ((hc _ _ (lt_cell c1)).trans c1)) (lt_cell ((hc _ _ (lt_cell c2)).trans c2)) ((hc _ _ (lt_cell c1)).trans c1) ((hc _ _ (lt_cell c2)).trans c2) (fun y hy=>by rw [hlist] at hy; exact udp_sum B a0 a1 a2 a3 a4 a5 a6 a7 r fr ta y hy hml hf ho m k hmk hnm hkr hm6 h6 h7))))
end Go.Proofs.YtbhbbeebncmaiaaGreatDoor.UdW
namespace Go.Proofs.YtbhbbeebncmaiaaGreatDoor.Hb
open Go.ChangeShapes Go.WideShapes Go.ChangeAt Go.RowKit
set_option linter.unusedVariables false
theorem hide {p:Prop} (h:p):Hid p:=h
theorem unhide {p:Prop} (h:Hid p):p:=h
theorem ret_int {k:IntKind} {a b:Int} (h:a=b):Ending.returned (.int k a)=.returned (.int k b):=by rw [h]
theorem wrap_i64 (n:Int) (h0:0≤n) (h1:n≤9223372036854775807):IntKind.i64.wrap n=n:=by
 simp [IntKind.wrap,IntKind.bits,IntKind.signed]; omega
theorem info64:(Tryz.prog.info? 3).map (fun i=>(i.zero,i.size,i.bytes))=some (some (.int .i64 0),1,8):=by kernel_rfl

def c64 (L:List Int):List Value:=L.map (Value.int .i64)
theorem c64_get (L:List Int) (j:Nat) (h:j<L.length):(c64 L)[j]?=some (.int .i64 (L.getD j 0)):=by simp [c64,h]
def Row (w:World) (g:Nat) (L:List Int):Prop:=∃ cur:Array Value,w.heap[g]?=some (.cells cur 3 (0,0))∧cur.toList.take L.length=c64 L
theorem Row.cell {w:World} {g:Nat} {L:List Int} (h:Row w g L) (j:Nat) (hj:j<L.length):w.cell? ⟨g,j,none⟩=some (.int .i64 (L.getD j 0)):=by
 obtain ⟨cur,hg,ht⟩:=h
 rw [cell_of_row w g j cur _ _ hg,← c64_get L j hj,← ht,List.getElem?_take,if_pos hj,Array.getElem?_toList]
theorem Row.free {w:World} {g:Nat} {L:List Int} (h:Row w g L) (j:Nat):w.frozen? ⟨g,j,none⟩=false:=by
 obtain ⟨cur,hg,_⟩:=h
 simp [World.frozen?,hg]
theorem Row.lt {w:World} {g:Nat} {L:List Int} (h:Row w g L):g<w.heap.size:=by
 obtain ⟨cur,hg,_⟩:=h
 exact lt_of_block hg
theorem Row.below {w w':World} {g B:Nat} {L:List Int} (h:Row w g L) (hb:Below B w w') (hg:g<B):Row w' g L:=by
 obtain ⟨cur,h1,h2⟩:=h
 exact ⟨cur,(hb.block g hg).trans h1,h2⟩
theorem Row.of {w:World} {g:Nat} {L:List Int} (h:w.heap[g]?=some (.cells (c64 L).toArray 3 (0,0))):Row w g L :=
 ⟨_,h,by rw [List.toList_toArray,List.take_of_length_le (by simp [c64])]⟩
theorem Row.set {w:World} {g:Nat} {L:List Int} (h:Row w g L) (j:Nat) (x:Int) (hj:j<L.length):Row (w.setCell ⟨g,j,none⟩ (.int .i64 x)) g (L.set j x):=by
 obtain ⟨cur,h1,h2⟩:=h
 have hlt:=lt_of_block h1
 have h':w.heap[g]=.cells cur 3 (0,0):=by simpa [Array.getElem?_eq_getElem hlt] using h1
 refine ⟨cur.setIfInBounds j (.int .i64 x),?_,?_⟩
 ·show (w.heap.modify g _)[g]?=_
  rw [Array.getElem?_eq_getElem (by simpa using hlt),Array.getElem_modify_self,h']
  rfl
 ·rw [List.length_set,Array.toList_setIfInBounds,List.take_set,h2]
  simp [c64,List.map_set]
end Go.Proofs.YtbhbbeebncmaiaaGreatDoor.Hb
