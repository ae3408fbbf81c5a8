import Derived.Test.YtdgacidndknceaaGreatDoorMg13
import Derived.Laws.AppendOwnNone
import Derived.Lib.Bytealg
import Derived.Lib.OwnKind
import Derived.Lib.SlicesCompact
set_option linter.all false
set_option maxHeartbeats 4000000
set_option maxRecDepth 10000
open Go.ChangeShapes Go.WideShapes Go.ChangeAt Go.RowKit
open Go renaming World → fV, Calls → f_
open Go.RowKit renaming Below → gm
open Go.Proofs.Tryz renaming prog → Vh
open Go.Value renaming int → Vb
open Go.IntKind renaming u8 → Vd, u16 → Ve, u32 → Vf, i64 → Vg
open Go.Proofs.Tryz
namespace Go.Proofs.YtdgacidndknceaaGreatDoor
namespace Tf
def D9(c:UInt8):Bool:=decide (33<=c.toNat/\c.toNat<=126)
def iM(l:List UInt8):Bool:= !l.isEmpty && l.all D9
def DZ(c:UInt8):UInt8:=if 65<=c.toNat/\c.toNat<=90 then UInt8.ofNat (c.toNat+32)else c
def pg(l:List UInt8):List UInt8:=l.map DZ
theorem mE(l:List UInt8):(pg l).length=l.length:=by simp[pg]
theorem vN(c:UInt8):(DZ c).toNat=if 65<=c.toNat/\c.toNat<=90 then c.toNat+32 else c.toNat:=by
 unfold DZ
 split
 ·rw[rz (by show _<256;omega)]
 ·rfl
abbrev Fd:=List UInt8×List UInt8
abbrev pO:=List Fd
def Uu(f:Fd):List UInt8:=f.1++ [0]++(f.2++ [0])
def nW(fs:pO):List UInt8:=fs.flatMap Uu
theorem QV(fs:pO)(k:Nat)(h:k<fs.length):nW (fs.take (k+1))=nW (fs.take k)++Uu fs[k]:=by
 rw[nW,aL h,bK]
 simp[nW]
theorem SF(fs:pO)(k:Nat):(nW (fs.take k)).length<=(nW fs).length:=by
 have e:nW fs=nW (fs.take k)++nW (fs.drop k):=by
  rw[nW,nW,nW,<-bK,bV]
 rw[e,ak];omega
def lF(fs:pO):Nat:=fs.length+(fs.map fun f=>f.1.length+f.2.length).sum
theorem Qo(fs:pO):(nW fs).length<=2*lF fs:=by
 induction fs with
 |nil=>simp[nW,lF]
 |cons f r ih=>
  simp only[nW,lF,Uu,bF,ak,aj,aP,bH,dW]at ih ⊢
  omega
theorem Et(fs:pO)(k:Nat)(h:k<fs.length):lF (fs.take (k+1))=lF (fs.take k)+1+(fs[k].1.length+fs[k].2.length):=by
 simp only[lF,aL h,bP,dU,ak,aj,aP,bH,dE,dW,List.sum_nil]
 omega
theorem Fb(fs:pO)(k:Nat):lF (fs.take k)+(fs.length-k)<=lF fs:=by
 have q:lF (fs.take k++fs.drop k)=lF (fs.take k)+lF (fs.drop k):=by
  simp only[lF,bP,dU,ak];omega
 rw[bV]at q
 have h:(fs.drop k).length<=lF (fs.drop k):=by unfold lF;omega
 rw[aW]at h
 omega
theorem JR(fs:pO)(k:Nat):lF (fs.take k)<=lF fs:=by
 have:=Fb fs k
 omega
theorem Ro(fs:pO)(k:Nat)(h:k<fs.length):fs[k].1.length+fs[k].2.length<=lF fs:=by
 have:=Et fs k h
 have:=JR fs (k+1)
 omega
def qa(fs:pO):List (List UInt8):=fs.map Prod.fst
theorem Ol(fs:pO):(qa fs).length=fs.length:=by simp[qa]
theorem FV(fs:pO)(k:Nat):qa (fs.take k)=(qa fs).take k:=by simp[qa,List.map_take]
def Qn(f:Fd):Bool:=iM f.1 && (pg f.1==f.1) && iM f.2
def uT:List (List UInt8)->Bool
 |[]=>true
 |x::r=> !r.contains x && uT r
theorem qG(l:List (List UInt8)):uT l=true↔l.Nodup:=by
 induction l with
 |nil=>simp[uT]
 |cons x r ih=>
  simp only[uT,dw,ih,List.nodup_cons]
  simp
def Ha(fs:pO)(n:List UInt8):Bool:=fs.any fun f=>f.1==n
theorem Ig(fs:pO)(n:List UInt8):Ha fs n=true↔n ∈ qa fs:=by
 simp only[Ha,List.any_eq_true,qa,dO]
 constructor
 ·rintro ⟨f,hf,h⟩;exact⟨f,hf,by simpa using h⟩
 ·rintro ⟨f,hf,h⟩;exact⟨f,hf,by simpa using h⟩
def yK(fs:pO):Bool:=fs.all Qn && uT (qa fs)
theorem GQ{α:Type}(l:List α)(x:α):(l++ [x]).Nodup↔l.Nodup/\x ∉ l:=by
 rw[List.nodup_append]
 constructor
 ·rintro ⟨h1,_,h3⟩;exact⟨h1,fun hx=>h3 x hx x (by simp) rfl⟩
 ·rintro ⟨h1,h2⟩;exact⟨h1,by simp,fun a ha b hb=>by simp at hb;subst hb;rintro rfl;exact h2 ha⟩
theorem QG(fs:pO)(k:Nat)(h:k<fs.length):yK (fs.take (k+1))=(yK (fs.take k) && (Qn fs[k] && !Ha (fs.take k) fs[k].1)):=by
 rw[Bool.eq_iff_iff]
 unfold yK
 simp only[dw,qG,Bool.not_eq_true',<-Bool.not_eq_true,Ig]
 rw[aL h]
 simp only[qa,bP,bH,dE,GQ,List.all_append,List.all_cons,List.all_nil,Bool.and_true,dw]
 constructor
 ·rintro ⟨⟨a,b⟩,c,d⟩;exact⟨⟨a,c⟩,b,d⟩
 ·rintro ⟨⟨a,c⟩,b,d⟩;exact⟨⟨a,b⟩,c,d⟩
theorem GZ{α:Type}{l:List α}(h:l.Nodup)(k:Nat):(l.take k).Nodup:=h.sublist (List.take_sublist k l)
theorem OM(fs:pO)(k:Nat)(h:yK (fs.take k)=false):yK fs=false:=by
 rw[<-Bool.not_eq_true]at h ⊢
 intro hh
 apply h
 unfold yK at hh ⊢
 rw[dw,qG]at hh ⊢
 refine⟨?_,?_⟩
 ·rw[List.all_eq_true]at hh ⊢
  exact fun f hf=>hh.1 f (List.mem_of_mem_take hf)
 ·rw[FV];exact GZ hh.2 k
theorem Lf(a b c:List UInt8):decide (a<=b)=true->decide (b<=c)=true->decide (a<=c)=true:=by
 simp only[cZ];exact List.le_trans
theorem Lb(a b:List UInt8):(decide (a<=b)||decide (b<=a))=true:=by
 simp only[Bool.or_eq_true,cZ];exact List.le_total a b
theorem u_(zs:List (List UInt8))(h:zs.Nodup):∀j,j<zs.length->Lib.keeps zs.toArray j=true:=by
 intro j hj
 by_cases e:j=0
 ·simp[Lib.keeps,e]
 ·apply Lib.keeps_pos
  have h1:j-1<zs.length:=by omega
  simp only[List.getElem!_toArray]
  rw[I1 zs j hj,I1 zs (j-1) h1]
  intro hh
  have q:=(dH.1 h) (j-1) j h1 hj (by omega)
  exact q hh.symm
theorem Ab{zs:List (List UInt8)}{j:Nat}(hj:j<zs.length)(hk:Lib.keeps zs.toArray j=false):(Lib.compact zs).length<zs.length:=by
 unfold Lib.compact Lib.compactUpTo
 rw[di]
 have h1:((List.range zs.length).filter (Lib.keeps zs.toArray)).length<(List.range zs.length).length:=by
  rw[List.length_filter_lt_length_iff_exists]
  exact⟨j,by simpa using hj,by rw[hk];simp⟩
 simpa using h1
theorem DK{zs:List (List UInt8)}(hs:zs.Pairwise (fun a b=>a<=b))(hk:∀j,j<zs.length->Lib.keeps zs.toArray j=true):zs.Nodup:=by
 rw[List.Nodup,dH]
 intro i j hi hj hij e
 have h1:i+1<zs.length:=by omega
 have hkk:=hk (i+1) h1
 have hle1:zs[i]<=zs[i+1]:=(dH.1 hs) i (i+1) hi h1 (by omega)
 have hle2:zs[i+1]<=zs[j]:=by
  by_cases e2:i+1=j
  ·subst e2;exact List.le_refl _
  ·exact(dH.1 hs) (i+1) j h1 hj (by omega)
 rw[<-e]at hle2
 have heq:zs[i+1]=zs[i]:=List.le_antisymm hle2 hle1
 simp only[Lib.keeps,cZ]at hkk
 rcases hkk with h0|h0
 ·omega
 ·apply h0
  simp only[List.getElem!_toArray,Nat.add_sub_cancel]
  rw[I1 zs (i+1) h1,I1 zs i hi]
  exact heq
def XR(l:List (List UInt8)):List (List UInt8):=l.mergeSort fun x y=>decide (x<=y)
theorem Py(l:List (List UInt8)):(XR l).length=l.length:=(List.mergeSort_perm l _).length_eq
theorem OH(l:List (List UInt8)):decide ((Lib.compact (XR l)).length=l.length)=uT l:=by
 have hp:(XR l).Perm l:=List.mergeSort_perm l _
 have hs:(XR l).Pairwise (fun a b=>a<=b):=by
  have:=List.pairwise_mergeSort Lf Lb l
  exact this.imp (fun h=>by simpa using h)
 have hl:(XR l).length=l.length:=hp.length_eq
 rw[Bool.eq_iff_iff,cZ,qG]
 constructor
 ·intro h
  apply hp.nodup_iff.1
  apply DK hs
  intro j hj
  cases hk:Lib.keeps (XR l).toArray j with
  |true=>rfl
  |false=>have:=Ab hj hk;omega
 ·intro h
  rw[Lib.compact_all _ (u_ _ (hp.nodup_iff.2 h)),hl]
def cut:List UInt8->Option (List UInt8×List UInt8)
 |[]=>none
 |c::r=>if c=0 then some ([],r)else match cut r with
  |none=>none
  |some (a,b)=>some (c::a,b)
theorem FE{l a b:List UInt8}(h:cut l=some (a,b)):l=a++0::b/\(0:UInt8) ∉ a:=by
 induction l generalizing a b with
 |nil=>simp[cut]at h
 |cons c r ih=>
  rw[cut]at h
  by_cases e:c=0
  ·rw[ay e]at h
   simp at h
   obtain⟨rfl,rfl⟩:=h
   simp[e]
  ·rw[ax e]at h
   cases hc:cut r with
   |none=>rw[hc]at h;simp at h
   |some p=>
    obtain⟨a',b'⟩:=p
    rw[hc]at h
    simp at h
    obtain⟨rfl,rfl⟩:=h
    obtain⟨h1,h2⟩:=ih hc
    refine⟨by rw[h1];simp,?_⟩
    simp only[List.mem_cons,not_or]
    exact⟨fun h=>e h.symm,h2⟩
theorem Uc(a b:List UInt8)(h:(0:UInt8) ∉ a):cut (a++0::b)=some (a,b):=by
 induction a with
 |nil=>simp[cut]
 |cons c r ih=>
  simp only[List.mem_cons,not_or]at h
  rw[kD,cut,ax (fun e=>h.1 e.symm),ih h.2]
theorem uA{l a b:List UInt8}(h:cut l=some (a,b)):l.length=a.length+1+b.length:=by
 obtain⟨h1,_⟩:=FE h
 rw[h1];simp;omega
def kV(l:List UInt8):Option pO:=
 if l=[]then some []else
 match h:cut l with
 |none=>none
 |some (n,r)=>if iM n then
   (match h2:cut r with
   |none=>none
   |some (v,r2)=>if iM v then(match kV r2 with
     |none=>none
     |some fs=>some ((pg n,v)::fs))else none)
  else none
termination_by l.length
decreasing_by
 have h1:=uA h
 have h2:=uA h2
 omega
theorem FX:kV []=some []:=by rw[kV,ay rfl]
theorem Bi{l:List UInt8}(h0:l≠ [])(h:cut l=none):kV l=none:=by
 rw[kV,ax h0]
 split
 ·rfl
 ·rename_i n r h';rw[h]at h';simp at h'
theorem nR{l n r:List UInt8}(h0:l≠ [])(h:cut l=some (n,r)):kV l=if iM n then(match cut r with
  |none=>none
  |some (v,r2)=>if iM v then(match kV r2 with
   |none=>none
   |some fs=>some ((pg n,v)::fs))else none)else none:=by
 rw[kV,ax h0]
 split
 ·rename_i h';rw[h]at h';simp at h'
 ·rename_i n' r' h'
  rw[h]at h'
  simp at h'
  obtain⟨rfl,rfl⟩:=h'
  by_cases hn:iM n=true
  ·rw[ay hn,ay hn]
   split
   ·rename_i h2;rw[h2]
   ·rename_i h2;rw[h2]
  ·rw[ax hn,ax hn]
theorem Ph{l n r:List UInt8}(h0:l≠ [])(h:cut l=some (n,r))(hn:iM n=false):kV l=none:=by
 rw[nR h0 h,hn];rfl
theorem Bz{l n r:List UInt8}(h0:l≠ [])(h:cut l=some (n,r))(h2:cut r=none):kV l=none:=by
 rw[nR h0 h,h2];split<;>rfl
theorem Pz{l n r v r2:List UInt8}(h0:l≠ [])(h:cut l=some (n,r))(h2:cut r=some (v,r2))(hv:iM v=false):kV l=none:=by
 rw[nR h0 h,h2]
 simp only[hv]
 split<;>rfl
theorem Pe{l n r v r2:List UInt8}(h0:l≠ [])(h:cut l=some (n,r))(h2:cut r=some (v,r2))(hn:iM n=true)(hv:iM v=true):kV l=match kV r2 with
  |none=>none
  |some fs=>some ((pg n,v)::fs):=by
 rw[nR h0 h,h2,ay hn]
 simp only[hv,fE]
structure RH where
 op:Nat
 block:Nat
 text:List UInt8
 data:List UInt8
 fs:pO
def RH.zero:RH:=⟨0,0,[],[],[]⟩
def Qy:List UInt8:=[111,99,116,101,116]
def TU(n:Nat):List UInt8:=[UInt8.ofNat (n/256),UInt8.ofNat n]
def RS(m:RH):Bool:=
 if m.op=1 then iM m.text && yK m.fs else if m.op=6 then yK m.fs else if m.op=5 then !m.text.contains 0 else(m.op==3||m.op==4)
def Mq(m:RH):List UInt8:=
 TU m.op++(if m.op=1 then m.text++ [0]++(Qy++ [0])++nW m.fs else if m.op=6 then nW m.fs else if m.op=3 then TU m.block++m.data else if m.op=5 then TU m.block++(m.text++ [0])else TU m.block)
def UU(m:RH):Nat:=
 if RS m=false then 2 else if m.op=3/\1024<m.data.length then 7 else if 1472<(Mq m).length then 7 else 0
def U7(m:RH):List UInt8:=if UU m=0 then Mq m else []
def Qr(l:List UInt8):Option pO:=match kV l with
 |none=>none
 |some fs=>if uT (qa fs)then some fs else none
def U5(l:List UInt8):Nat×RH:=
 if l.length<2 then(1,.zero)else
 let op:=(l.getD 0 0).toNat*256+(l.getD 1 0).toNat
 let r:=l.drop 2
 if op=1 then
  match cut r with
  |none=>(2,.zero)
  |some (n,r1)=>if iM n=false then(2,.zero)else match cut r1 with
   |none=>(2,.zero)
   |some (m,r2)=>if pg m≠Qy then(2,.zero)else match Qr r2 with
    |none=>(2,.zero)
    |some fs=>(0,⟨op,0,n,[],fs⟩)
 else if op=6 then match Qr r with
  |none=>(2,.zero)
  |some fs=>(0,⟨op,0,[],[],fs⟩)
 else if op=3∨op=4∨op=5 then
  if r.length<2 then(1,.zero)else
  let bl:=(r.getD 0 0).toNat*256+(r.getD 1 0).toNat
  let q:=r.drop 2
  if op=3 then(if 1024<q.length then(7,.zero)else(0,⟨op,bl,[],q,[]⟩))
  else if op=4 then(if q=[]then(0,⟨op,bl,[],[],[]⟩)else(2,.zero))
  else match cut q with
   |none=>(2,.zero)
   |some (t,q2)=>if q2=[]then(0,⟨op,bl,t,[],[]⟩)else(2,.zero)
 else(2,.zero)
end Tf
namespace Dh
open Bs
open Rd (iL iH)
theorem KO(os:gU)(c:UInt8)(k:Nat)(h:k<os.length):data (os.take (k+1)) c=data (os.take k) c++(if os[k].1=c then os[k].2 else []):=by
 rw[aL h]
 simp only[data,List.filter_append,bK]
 congr 1
 by_cases e:os[k].1=c
 ·simp[e]
 ·have:(os[k].1==c)=false:=by simpa using e
  simp[e,bA]
theorem NM(os:gU)(c:UInt8)(k:Nat)(h:k<os.length):has (os.take (k+1)) c=(has (os.take k) c||os[k].1==c):=by
 rw[aL h]
 simp only[has,IA,eO,List.any_nil,fK]
theorem drop_take(os:gU)(c:UInt8)(k:Nat)(h:k<os.length):drop (os.take (k+1)) c=drop (os.take k) c++(if os[k].1=c then []else [os[k]]):=by
 rw[aL h]
 simp only[drop,List.filter_append]
 congr 1
 by_cases e:os[k].1=c
 ·simp[e]
 ·simp[e,bA]
theorem vL(os:gU)(c:UInt8):(data os c).length<=heavy os:=by
 induction os with
 |nil=>simp[data,heavy]
 |cons o r ih=>
  rw[qj,ak]
  simp only[heavy,aj,bH,dW]at ih ⊢
  have hif:(if o.1=c then o.2 else []).length<=o.2.length:=by split<;>simp
  omega
theorem toNat_eq(a b:UInt8):(((a.toNat:Nat):Int)==((b.toNat:Nat):Int))=decide (a=b):=by
 by_cases h:a=b
 ·subst h;simp
 ·have:a.toNat≠b.toNat:=fun e=>h (dD.1 e)
  simp[h];omega
theorem nN(a:Option Addr)(cap:Nat)(os:gU)(c:UInt8)(w:fV)(hA:At w a os)(hl:heavy os<=268435456):
  f_ Vh 228 #[.slice a os.length cap,Vb Vd c.toNat] w fun e w'=>
   e=.returned (.tuple #[.string ⟨(data os c).toArray⟩,.bool (has os c)])/\gm w.heap.size w w':=by
 obtain⟨i0,hi,hz0,hz1,hz2⟩:=Vx tu
 have hlen:os.length<=heavy os:=by unfold heavy;omega
 have HA:=M0 hA
 clear hA
 go_enter func228,ntmps228
 go_wp2
 go_loopw [6,7,12] (fun v6 v7 i wr=>∃k:Nat,k<=os.length/\i=Vb Vg k/\v7=.bool (has (os.take k) c)/\Hid (wr.ownsRow w.heap.size 5 1 v6 (data (os.take k) c).length (gY (data (os.take k) c)))/\Hid (gm w.heap.size w wr)) (fun _ _ i _=>os.length-(intOf i).toNat)
 case atStart=>exact⟨0,aN _,rfl,rfl,M0 (Vp _ _ _ _),M0 (R9 _ _)⟩
 case round=>
  obtain⟨k,hk,rfl,rfl,HO,HW⟩:=hrel
  rename fV=>wr
  have hdl:=vL (os.take k) c
  have hkl:=vQ os k
  by_cases hlt:k<os.length
  ·obtain⟨ad,rfl,c0,c1⟩:=HA.below HW (ai _) k hlt
   obtain⟨oc,od,hcd⟩:∃x y,os[k]=(x,y):=⟨_,_,rfl⟩
   have ht:=uQ os k hlt
   have htl:=vQ os (k+1)
   have hdt:=KO os c k hlt
   have hht:=NM os c k hlt
   rw[hcd]at c0 c1 ht hdt hht
   simp only at c0 c1 ht hdt hht
   have HD:=M0 hdt
   have HH:=M0 hht
   have hwz:=HW.size
   obtain⟨s,hS⟩:∃s:ByteArray,s=⟨od.toArray⟩:=⟨_,rfl⟩
   have hsz:s.size=od.length:=by rw[hS];exact gL od
   have hst:s.data.toList=od:=by rw[hS]
   rw[<-hS]at c1
   have HS:=M0 hst
   clear hcd hdt hht hS hst
   by_cases e:oc=c
   ·have q:(((oc.toNat:Nat):Int)==((c.toNat:Nat):Int))=true:=by rw[toNat_eq];simpa using e
    rw[ay e]at HD
    have HHT:Hid (has (os.take (k+1)) c=true):=M0 (by rw[gB HH];simp[e])
    clear HH e
    go_wp2_with (at_builtin;refine Lib.wpList_append_own_string _ rfl (.tmp 20) (.tmp 22) 73 9 rfl w.heap.size 5 i0 eP eT hi hz0 hz1 hz2 _ _ _ rfl (HO.alloc _) s rfl ?h63 ?hby ?hba ?_)
    case h63=>simp only[maxLen];omega
    case hby=>omega
    case hba=>simp;omega
    ·intro v' w1 hown hg _
     have hnew:∀x,Value.ownBlock _=some x->w.heap.size<=x:=fun x hx=>(HO.lt x hx).1
     have hB1:gm w.heap.size w w1:=(HW.alloc hwz _).grown hg (by simp;omega) hnew
     have hO1:w1.ownsRow w.heap.size 5 1 v' (data (os.take (k+1)) c).length (gY (data (os.take (k+1)) c)):=by
      have e8:gY od=Lib.strCells s:=by rw[<-gB HS];rfl
      rw[gB HD,ak,pY,e8];exact hown
     have O1:=M0 hO1
     have B1:=M0 hB1
     clear hown hg hnew hB1 hO1
     go_wp2
     go_roundw
     case rel=>exact⟨k+1,by omega,by go_num,by rw[gB HHT],O1,B1⟩
     case measure=>simp[intOf];omega
   ·have q:(((oc.toNat:Nat):Int)==((c.toNat:Nat):Int))=false:=by rw[toNat_eq];simpa using e
    rw[ax e,bn]at HD
    have HHT:Hid (has (os.take (k+1)) c=has (os.take k) c):=M0 (by rw[gB HH];simp[e])
    clear HH e
    go_wp2
    go_roundw
    case rel=>exact⟨k+1,by omega,by go_num,by rw[gB HHT],M0 (by rw[gB HD];exact HO.alloc _),M0 (HW.alloc hwz _)⟩
    case measure=>simp[intOf];omega
  ·have e:k=os.length:=by omega
   subst e
   rw[aS]at HO
   have HT:Hid (has (os.take os.length) c=has os c):=M0 (by rw[aS])
   have hcv:=oL wr _ _ _ HO
   obtain⟨ao,cp,hv⟩:=ib HO
   subst hv
   go_wp2
   go_ret2
   exact⟨by rw[gB HT];rfl,HW⟩
theorem Ea(a:Option Addr)(cap:Nat)(os:gU)(c:UInt8)(w:fV)(hA:At w a os)(hl:heavy os<=268435456):
  f_ Vh 229 #[.slice a os.length cap,Vb Vd c.toNat] w fun e w'=>
   ∃v,e=.returned v/\w'.ownsRow w.heap.size 138 2 v (drop os c).length (gT (drop os c))/\gm w.heap.size w w':=by
 obtain⟨i0,hi,hz0,hz1,hz2⟩:=Vx lM
 have hlen:os.length<=heavy os:=by unfold heavy;omega
 have HA:=M0 hA
 clear hA
 go_enter func229,ntmps229
 go_wp2
 go_loopw [5,10] (fun v5 i wr=>∃k:Nat,k<=os.length/\i=Vb Vg k/\(drop (os.take k) c).length<=k/\Hid (wr.ownsRow w.heap.size 138 2 v5 (drop (os.take k) c).length (gT (drop (os.take k) c)))/\Hid (gm w.heap.size w wr)) (fun _ i _=>os.length-(intOf i).toNat)
 case atStart=>exact⟨0,aN _,rfl,ai _,M0 (Vp _ _ _ _),M0 (R9 _ _)⟩
 case round=>
  obtain⟨k,hk,rfl,hdk,HO,HW⟩:=hrel
  rename fV=>wr
  by_cases hlt:k<os.length
  ·obtain⟨ad,rfl,c0,c1⟩:=HA.below HW (ai _) k hlt
   obtain⟨oc,od,hcd⟩:∃x y,os[k]=(x,y):=⟨_,_,rfl⟩
   have hdt:=drop_take os c k hlt
   rw[hcd]at c0 c1 hdt
   simp only at c0 c1 hdt
   have HD:=M0 hdt
   have hwz:=HW.size
   clear hcd hdt
   by_cases e:oc=c
   ·have q:(((oc.toNat:Nat):Int)!=((c.toNat:Nat):Int))=false:=by rw[bne,toNat_eq];simpa using e
    rw[ay e,bn]at HD
    clear e
    go_wp2
    go_roundw
    case rel=>exact⟨k+1,by omega,by go_num,by rw[gB HD];omega,M0 (by rw[gB HD];exact HO.alloc _),M0 (HW.alloc hwz _)⟩
    case measure=>simp[intOf];omega
   ·have q:(((oc.toNat:Nat):Int)!=((c.toNat:Nat):Int))=true:=by rw[bne,toNat_eq];simpa using e
    rw[ax e]at HD
    clear e
    go_wp2_with (at_builtin;refine Vv _ rfl (.tmp 18) (.tmp 20) 200 rfl w.heap.size 138 i0 (.agg #[Vb Vd 0,.string ⟨#[]⟩]) 2 24 eX hi hz0 hz1 hz2 rfl (by decide) _ _ _ rfl ((HO.alloc _).alloc _) (a_ (wr.heap.size+1) 0) 1 1 [Vb Vd oc.toNat,.string ⟨od.toArray⟩] rfl rfl ?c1 ?one ?h63 ?hby ?hba ?_)
    case c1=>
     have q:=iW (wr.alloc (.cells #[Vb Vd oc.toNat,.string ⟨od.toArray⟩] 138)) [Vb Vd oc.toNat,.string ⟨od.toArray⟩] 138
     simpa using q
    case one=>intro u hu;simp at hu;rcases hu with rfl|rfl<;>rfl
    case h63=>simp only[maxLen];omega
    case hby=>omega
    case hba=>simp;omega
    ·intro v' w1 hown hg _
     have hnew:∀x,Value.ownBlock _=some x->w.heap.size<=x:=fun x hx=>(HO.lt x hx).1
     have hB1:gm w.heap.size w w1:=((HW.alloc hwz _).alloc (by simp;omega) _).grown hg (by simp;omega) hnew
     have hO1:w1.ownsRow w.heap.size 138 2 v' (drop (os.take (k+1)) c).length (gT (drop (os.take (k+1)) c)):=by
      rw[gB HD,ak,iV];exact hown
     have O1:=M0 hO1
     have B1:=M0 hB1
     clear hown hg hnew hB1 hO1
     go_wp2
     go_roundw
     case rel=>exact⟨k+1,by omega,by go_num,by rw[gB HD,ak,aj,aP];omega,O1,B1⟩
     case measure=>simp[intOf];omega
  ·have e:k=os.length:=by omega
   subst e
   rw[aS]at HO
   obtain⟨ao,cp,hv⟩:=ib HO
   subst hv
   go_wp2
   go_ret
   exact⟨_,rfl,HO,HW⟩
end Dh
namespace Dh
open Bs
def Ka(f:Nat->Value):Array Value:=((List.range 256).map f).toArray
def o_(w:fV)(b:Nat)(t:TypeId)(f:Nat->Value):Prop:=w.heap[b]?=some (.cells (Ka f) t (0,0))
theorem o_.cell{w:fV}{b:Nat}{t:TypeId}{f:Nat->Value}(h:o_ w b t f)(k:Nat)(hk:k<256):w.cell? (a_ b k)=some (f k):=by
 rw[dh w b k _ _ _ h]
 simp[Ka,hk]
theorem o_.free{w:fV}{b:Nat}{t:TypeId}{f:Nat->Value}(h:o_ w b t f)(k:Nat):w.frozen? (a_ b k)=false:=kU w b k _ _ h
theorem o_.set{w:fV}{b:Nat}{t:TypeId}{f:Nat->Value}(h:o_ w b t f)(k:Nat)(hk:k<256)(v:Value):o_ (w.setCell (a_ b k) v) b t (fun j=>if j=k then v else f j):=by
 have q:=eQ w b k _ t v h
 unfold o_
 rw[q]
 congr 2
 apply aJ
 simp only[Ka,Array.set!_eq_setIfInBounds,oK]
 apply wy
 intro i
 rw[List.getElem?_set]
 by_cases hi:i<256
 ·by_cases e:k=i
  ·subst e;simp[hk]
  ·have e': ¬i=k:=fun h=>e h.symm
   simp[e,e',hi]
 ·by_cases e:k=i
  ·omega
  ·simp[e,hi]
theorem o_.kept{w w':fV}{b:Nat}{t:TypeId}{f:Nat->Value}(h:o_ w b t f)(hb:w'.heap[b]?=w.heap[b]?):o_ w' b t f:=hb.trans h
theorem o_.lt{w:fV}{b:Nat}{t:TypeId}{f:Nat->Value}(h:o_ w b t f):b<w.heap.size:=Vj h
theorem o_.same{w:fV}{b:Nat}{t:TypeId}{f g:Nat->Value}(h:o_ w b t f)(e:∀j,j<256->f j=g j):o_ w b t g:=by
 unfold o_ at h ⊢
 rw[h]
 congr 2
 unfold Ka
 congr 1
 apply vk
 intro j hj
 exact e j (by simpa using hj)
structure Jl (ps:List Pc) (cs:List UInt8):Prop where
 nodup:cs.Nodup
 mem:∀x,x ∈ cs↔has ps x=true
 all:gW [] ps=cs.map fun c=>(c,data ps c)
theorem Jl.nil:Jl [] []:=⟨List.nodup_nil,fun x=>by simp[has],rfl⟩
theorem qx(ps:List Pc)(p:Pc)(c:UInt8):data (ps++ [p]) c=data ps c++(if p.1=c then p.2 else []):=by
 simp only[data,List.filter_append,bK]
 congr 1
 by_cases e:p.1=c
 ·simp[e]
 ·simp[e,bA]
theorem sZ(ps:List Pc)(p:Pc)(c:UInt8):has (ps++ [p]) c=(has ps c||p.1==c):=by
 simp only[has,IA,eO,List.any_nil,fK]
theorem QU(cs:List UInt8)(f g:UInt8->List UInt8)(x:UInt8)(d:List UInt8)(hn:cs.Nodup)(hx:x ∈ cs)(hg:∀c,g c=if x=c then f c++d else f c):
  add (cs.map fun c=>(c,f c)) (x,d)=cs.map fun c=>(c,g c):=by
 induction cs with
 |nil=>cases hx
 |cons a r ih=>
  rw[List.nodup_cons]at hn
  simp only[bH,add]
  by_cases e:a=x
  ·subst e
   rw[ay rfl,hg a,ay rfl]
   congr 1
   apply vk
   intro c hc
   have: ¬a=c:=fun e=>hn.1 (e▸hc)
   rw[hg c,ax this]
  ·rw[ax e,hg a,ax (fun h=>e h.symm)]
   congr 1
   exact ih hn.2 ((List.mem_cons.1 hx).resolve_left (fun h=>e h.symm))
theorem O8(cs:List UInt8)(f g:UInt8->List UInt8)(x:UInt8)(d:List UInt8)(hx: ¬x ∈ cs)(hg:∀c,¬x=c->g c=f c)(hd:g x=d):
  add (cs.map fun c=>(c,f c)) (x,d)=(cs++ [x]).map fun c=>(c,g c):=by
 induction cs with
 |nil=>simp[add,hd]
 |cons a r ih=>
  have ha: ¬a=x:=fun e=>hx (by simp[e])
  simp only[bH,add,kD]
  rw[ax ha,hg a (fun h=>ha h.symm)]
  congr 1
  exact ih (fun h=>hx (List.mem_cons_of_mem _ h))
theorem Jl.step{ps:List Pc}{cs:List UInt8}(h:Jl ps cs)(x:UInt8)(d:List UInt8)(hx:has ps x=true):Jl (ps++ [(x,d)]) cs:=by
 refine⟨h.nodup,fun y=> ?_,?_⟩
 ·rw[sZ,h.mem y]
  by_cases e:x=y
  ·subst e;simp[hx]
  ·simp[e]
 ·rw[j_,h.all]
  exact QU cs (data ps) (data (ps++ [(x,d)])) x d h.nodup ((h.mem x).2 hx) (fun c=>by
   rw[qx]
   by_cases e:x=c<;>simp[e])
theorem Jl.more{ps:List Pc}{cs:List UInt8}(h:Jl ps cs)(x:UInt8)(d:List UInt8)(hx:has ps x=false):Jl (ps++ [(x,d)]) (cs++ [x]):=by
 have hxc: ¬x ∈ cs:=fun e=>by rw[(h.mem x).1 e]at hx;cases hx
 refine⟨?_,fun y=> ?_,?_⟩
 ·rw[List.nodup_append]
  refine⟨h.nodup,by simp,fun a ha b hb=> ?_⟩
  simp at hb
  subst hb
  exact fun e=>hxc (e▸ha)
 ·rw[sZ,List.mem_append,h.mem y]
  by_cases e:x=y
  ·subst e;simp
  ·have: ¬y=x:=fun h=>e h.symm
   simp[e,this]
 ·rw[j_,h.all]
  exact O8 cs (data ps) (data (ps++ [(x,d)])) x d hxc (fun c hc=>by rw[qx];simp[hc]) (by rw[qx,aF7 ps x hx];simp)
theorem KH{P:Program}{w w':fV}{v v':Value}{base n:Nat}{xs:List Value}{t u ty e:TypeId}{i:TypeInfo}{s:ByteArray}
  (ht:P.underlying t=some (.slice e)) (hu:P.underlying u=some .string) (hi:P.info? e=some i) (hz:i.zero=some (Vb Vd 0)) (hsize:i.size=1) (hby:i.bytes=1)
  (hown:w.ownsRow base e 1 v n xs) (h63:n+s.size<=maxLen) (hbytes:n+s.size<=140737488355328)
  (hr:(Builtin.append_ #[t,u] ty #[v,.string s]).run P w=.ok v' w'):v'.ownBlock=v.ownBlock∨∀g,v'.ownBlock=some g->w.heap.size<=g:=by
 have hcl:=fun g hg=>hown.cells (g:=g) hg
 have hxl:=hown.1
 rcases hown.2 with⟨rfl,hn⟩|⟨g,cap,cur,rfl,_,hg,hnc,hcm,hcs,_⟩
 ·right
  obtain⟨v2,w2,hr2,h2,_,_⟩:=zf (P:=P) w w.heap.size t u ty e i ht hu hi hz hsize hby (.slice none 0 0) 0 [] (Vp _ _ _ _) s (by omega) (by omega) (ai _)
  rw[hr]at hr2
  cases hr2
  exact fun g hg=>(h2.lt g hg).1
 ·by_cases hroom:n+s.size<=cap
  ·left
   have hr2:=Lib.run_append_room_string (P:=P) w t u ty e i ht hu hi hsize g n cap cur hg s hroom (by rw[hcs];omega)
   rw[hr]at hr2
   cases hr2
   rfl
  ·right
   unfold maxLen at h63
   have hr2:=Lib.run_append_grow_string (P:=P) w t u ty e i (Vb Vd 0) ht hu hi hz (a_ g 0) n cap xs (by rw[hsize];simpa using hxl) (hcl g rfl) s (by omega) (by omega) (by rw[hby];exact growslice_fits (by omega) (by omega))
   rw[hr]at hr2
   cases hr2
   intro g' hg'
   simp[Value.ownBlock]at hg'
   omega
theorem qR{P:Program}{ops:Array Oper}{o:Oper}{a:Act}{w:fV}{K:Act->fV->Prop}{Q:Exit->Act->fV->Prop}{E:Prop}
  (hg:o.guard=none) (sl x:Operand) (t u:TypeId) (ho:o.op=.call {callee:=.builtin .append,args:=#[sl,x],argTypes:=#[t,u]})
  (base:Nat) (e:TypeId) (i:TypeInfo) (ht:P.underlying t=some (.slice e)) (hu:P.underlying u=some .string) (hi:P.info? e=some i) (hz:i.zero=some (Vb Vd 0))
  (hsize:i.size=1) (hby:i.bytes=1)
  (v:Value) (n:Nat) (xs:List Value) (hs:a.eval sl=v) (hown:w.ownsRow base e 1 v n xs) (s:ByteArray) (hx:a.eval x=.string s)
  (h63:n+s.size<=maxLen) (hbytes:n+s.size<=140737488355328) (hbase:base<=w.heap.size)
  (hK:∀v' w',w'.ownsRow base e 1 v' (n+s.size) (xs++Lib.strCells s)->w.grownBy w' v.ownBlock->(v'.ownBlock=v.ownBlock∨∀g,v'.ownBlock=some g->w.heap.size<=g)->K (a.put o.dst v') w'):
  if Region.wanted o (yielded ops a.tmps)=true then Oper.wp P o a w K Q else E:=by
 have hw:Region.wanted o (yielded ops a.tmps)=true:=by simp[Region.wanted,hg]
 rw[ay hw]
 obtain⟨v',w',hr,h2,h3,h4⟩:=zf (P:=P) w base t u o.type e i ht hu hi hz hsize hby v n xs hown s h63 hbytes hbase
 unfold Oper.wp execOp
 simp only[ho,resolve,invoke,builtin,dz,dR,cO,List.map_toArray,bH,dE,hs,hx,hr]
 exact hK v' w' h2 h3 (KH ht hu hi hz hsize hby hown h63 hbytes hr)
end Dh
namespace Rd
open Bs
structure VS (T:TypeId) (z:Array Value) (w:fV) (B V:Nat) (u:fV) (l:List UInt8) (cs:Array Value):Prop where
 lo:B<w.heap.size
 lv:w.heap.size<V
 D8:iL u B l
 grown:w.grownBy u (some B)
 res:u.heap[w.heap.size]?=some (.cells z T (0,0))
 var:u.heap[V]?=some (.cells cs T (0,0))
variable{T:TypeId} {z cs cs':Array Value} {w u u2:fV} {B V:Nat} {l l2:List UInt8}
theorem VS.start(T:TypeId)(z:Array Value)(h:iL w B l):VS T z w B (w.heap.size+1) ((w.alloc (.cells z T)).alloc (.cells z T)) l z:=
 ⟨h.lt,Nat.lt_succ_self _,(h.alloc _).alloc _,gV (gV (il _ _) _) _,by rw[Vi _ _ _ (by simp)];exact G8 w _,by
  have q:=G8 (w.alloc (.cells z T)) (.cells z T)
  rw[show(w.alloc (.cells z T)).heap.size=w.heap.size+1 by simp]at q
  exact q⟩
theorem VS.make(h0:B<w.heap.size)(h:iL u B l)(hg:w.grownBy u (some B))(hr:u.heap[w.heap.size]?=some (.cells z T (0,0))):VS T z w B u.heap.size (u.alloc (.cells z T)) l z:=
 ⟨h0,Vj hr,h.alloc _,gV hg _,by rw[Vi _ _ _ (Vj hr)];exact hr,G8 u _⟩
theorem VS.next(h:VS T z w B V u l cs)(hr:iL u2 B l2)(hg:u.grownBy u2 (some B)):VS T z w B V u2 l2 cs:=
 ⟨h.lo,h.lv,hr,gH h.grown hg,(hg.block _ (Vj h.res) (by have:=h.lo;have:=h.lv;simp;omega)).trans h.res,(hg.block _ (Vj h.var) (by have:=h.lo;have:=h.lv;simp;omega)).trans h.var⟩
theorem VS.set(h:VS T z w B V u l cs)(j:Nat)(v:Value):VS T z w B V (u.setCell (a_ V j) v) l (cs.setIfInBounds j v):=
 ⟨h.lo,h.lv,gP.other h.D8 (by have:=h.lo;have:=h.lv;simp;omega) _,gP.gN h.grown (aK h.lv) _,by rw[R8 _ _ _ _ (by have:=h.lv;simp;omega)];exact h.res,gP.gI h.var j v⟩
def N8(u:fV)(b:Nat):List (Nat×Value)->fV
 |[]=>u
 |p::r=>N8 (u.setCell (a_ b p.1) p.2) b r
def SH(c:Array Value):List (Nat×Value)->Array Value
 |[]=>c
 |p::r=>SH (c.setIfInBounds p.1 p.2) r
theorem VS.sets(h:VS T z w B V u l cs)(ps:List (Nat×Value))(e:SH cs ps=cs'):VS T z w B V (N8 u V ps) l cs':=by
 induction ps generalizing u cs with
 |nil=>exact e▸h
 |cons p r ih=>exact ih (h.set p.1 p.2) e
theorem VS.free(h:VS T z w B V u l cs):(∀j,u.frozen? (a_ V j)=false)/\∀j,u.frozen? (a_ w.heap.size j)=false:=⟨gP.gM h.var,gP.gM h.res⟩
theorem VS.done(h:VS T z w B V u l cs)(ps:List (Nat×Value)):w.grownBy (N8 u w.heap.size ps) (some B):=by
 have:∀(ps:List (Nat×Value)) (u:fV),w.grownBy u (some B)->w.grownBy (N8 u w.heap.size ps) (some B):=fun ps=>by
  induction ps with
  |nil=>exact fun u hu=>hu
  |cons p r ih=>exact fun u hu=>ih _ (gP.gN hu (ai _) _)
 exact this ps u h.grown
theorem VS.below(h:VS T z w B V u l cs)(hb:gm u.heap.size u u2):VS T z w B V u2 l cs:=
 ⟨h.lo,h.lv,(hb.block _ (Vj h.D8)).trans h.D8,jh h.grown hb,(hb.block _ (Vj h.res)).trans h.res,(hb.block _ (Vj h.var)).trans h.var⟩
end Rd
namespace gP
open Bs Rd
def FC(l:List UInt8)(B:Nat)(w:fV)(ee:Ending)(w':fV):Prop:=w.grownBy w' (some B)/\match l with
 |a::b::c::d::e::f::a'::b'::c'::d'::e'::f'::t::t'::r=>if og.X6 (256*(t.toNat:Int)+(t'.toNat:Int))=false then ee=.panicked (iH 3)else if og.ko ⟨r.toArray⟩=false then ee=.panicked (iH 7)else ee=.returned (.agg (rF a.toNat b.toNat c.toNat d.toNat e.toNat f.toNat a'.toNat b'.toNat c'.toNat d'.toNat e'.toNat f'.toNat (256*(t.toNat:Int)+(t'.toNat:Int)) ⟨r.toArray⟩))
 |_=>ee=.panicked (iH 1)
theorem zL{u:fV}{g:Nat}{t:TypeId}{b0 b1 b2 b3 b4 b5 b6 b7 b8 b9 b10 b11 b12 b13:Value}(h:u.heap[g]?=some (.cells #[b0,b1,b2,b3,b4,b5,b6,b7,b8,b9,b10,b11,b12,b13] t (0,0))):
  u.cell? (a_ g 0)=some b0/\u.cell? (a_ g 1)=some b1/\u.cell? (a_ g 2)=some b2/\u.cell? (a_ g 3)=some b3/\u.cell? (a_ g 4)=some b4/\u.cell? (a_ g 5)=some b5/\u.cell? (a_ g 6)=some b6/\u.cell? (a_ g 7)=some b7/\u.cell? (a_ g 8)=some b8/\u.cell? (a_ g 9)=some b9/\u.cell? (a_ g 10)=some b10/\u.cell? (a_ g 11)=some b11/\u.cell? (a_ g 12)=some b12/\u.cell? (a_ g 13)=some b13:=by
 have q:=fun j=>dh u g j _ _ _ h
 exact⟨q 0,q 1,q 2,q 3,q 4,q 5,q 6,q 7,q 8,q 9,q 10,q 11,q 12,q 13⟩
theorem xu{l:List UInt8}{B:Nat}{w w':fV}(hg:w.grownBy w' (some B))(h:l.length<14):FC l B w (.panicked (iH 1)) w':=by
 refine⟨hg,?_⟩
 split
 ·simp only[aj]at h;omega
 ·rfl
theorem NC{a b c d e f a' b' c' d' e' f' t t':UInt8}{r:List UInt8}{B:Nat}{w w':fV}(hg:w.grownBy w' (some B))(ht:og.X6 (256*(t.toNat:Int)+(t'.toNat:Int))=false):FC (a::b::c::d::e::f::a'::b'::c'::d'::e'::f'::t::t'::r) B w (.panicked (iH 3)) w':=by
 refine⟨hg,?_⟩
 show ite _ _ _
 rw[ay ht]
theorem Em{a b c d e f a' b' c' d' e' f' t t':UInt8}{r:List UInt8}{B:Nat}{w w':fV}{ee:Ending}(hg:w.grownBy w' (some B))(ht:og.X6 (256*(t.toNat:Int)+(t'.toNat:Int))=true)(he:if og.ko ⟨r.toArray⟩=false then ee=.panicked (iH 7)else ee=.returned (.agg (rF a.toNat b.toNat c.toNat d.toNat e.toNat f.toNat a'.toNat b'.toNat c'.toNat d'.toNat e'.toNat f'.toNat (256*(t.toNat:Int)+(t'.toNat:Int)) ⟨r.toArray⟩))):FC (a::b::c::d::e::f::a'::b'::c'::d'::e'::f'::t::t'::r) B w ee w':=by
 refine⟨hg,?_⟩
 show ite _ _ _
 rw[ax (by rw[ht];decide)]
 exact he
theorem Cr(B:Nat)(l:List UInt8)(w:fV)(h:iL w B l)(hs:l.length<=1099511627014):
  f_ Vh 57 #[p_ B] w fun ee w'=>FC l B w ee w':=by
 have S0:=M0 (VS.start 55 zF_ h)
 clear h
 go_enter func57,ntmps57
 go_wp2_with fail
 by_cases h6:l.length<6
 ·refine(JG _ _ _ S0.D8 h6).mono ?_
  rintro ee v ⟨rfl,g⟩
  exact⟨rfl,xu (gH S0.grown g) (by omega)⟩
 obtain⟨a,b,c,d,e,f,l,rfl⟩:=sixth l (by omega)
 refine(tZ _ _ _ _ _ _ _ _ _ S0.D8 (by simp only[aj,maxLen]at*;omega)).mono ?_
 rintro ee w1 ⟨rfl,h1,g1⟩
 have S1:=M0 (S0.next h1 g1)
 have S2:=M0 (S1.sets [(0,Vb Vd a.toNat),(1,Vb Vd b.toNat),(2,Vb Vd c.toNat),(3,Vb Vd d.toNat),(4,Vb Vd e.toNat),(5,Vb Vd f.toNat)] (cs':=(rF a.toNat b.toNat c.toNat d.toNat e.toNat f.toNat 0 0 0 0 0 0 0 ⟨#[]⟩)) rfl)
 obtain⟨x0,x1,x2,x3,x4,x5,x6,x7,x8,x9,x10,x11,x12,x13⟩:=zL S1.var
 have f1:=S1.free.1
 clear h1 g1 S0 S1 h6
 go_wp2_with fail
 by_cases h6:l.length<6
 ·refine(JG _ _ _ S2.D8 h6).mono ?_
  rintro ee v ⟨rfl,g⟩
  exact⟨rfl,xu (gH S2.grown g) (by simp only[aj];omega)⟩
 obtain⟨a',b',c',d',e',f',l,rfl⟩:=sixth l (by omega)
 refine(tZ _ _ _ _ _ _ _ _ _ S2.D8 (by simp only[aj,maxLen]at*;omega)).mono ?_
 rintro ee w2 ⟨rfl,h1,g1⟩
 clear x0 x1 x2 x3 x4 x5 x6 x7 x8 x9 x10 x11 x12 x13 f1 h6
 have S3:=M0 (S2.next h1 g1)
 have S4:=M0 (S3.sets [(6,Vb Vd a'.toNat),(7,Vb Vd b'.toNat),(8,Vb Vd c'.toNat),(9,Vb Vd d'.toNat),(10,Vb Vd e'.toNat),(11,Vb Vd f'.toNat)] (cs':=(rF a.toNat b.toNat c.toNat d.toNat e.toNat f.toNat a'.toNat b'.toNat c'.toNat d'.toNat e'.toNat f'.toNat 0 ⟨#[]⟩)) rfl)
 obtain⟨x0,x1,x2,x3,x4,x5,x6,x7,x8,x9,x10,x11,x12,x13⟩:=zL S3.var
 have f1:=S3.free.1
 clear h1 g1 S2 S3
 go_wp2_with fail
 by_cases h2:l.length<2
 ·refine(BC _ _ _ S4.D8 h2).mono ?_
  rintro ee v ⟨rfl,g⟩
  exact⟨rfl,xu (gH S4.grown g) (by simp only[aj];omega)⟩
 obtain⟨t,t',r,rfl⟩:=second l (by omega)
 cases ht:og.X6 (256*(t.toNat:Int)+(t'.toNat:Int))with
 |false=>
  refine(an8 _ _ _ _ _ S4.D8 (by simp only[aj,maxLen]at*;omega) ht).mono ?_
  rintro ee v ⟨rfl,g⟩
  exact⟨rfl,NC (gH S4.grown g) ht⟩
 |true=>
  have HT:=M0 (I4 _ _ _ _ _ S4.D8 (by simp only[aj,maxLen]at*;omega) ht)
  obtain⟨x,hx⟩:∃x,x=(256*(t.toNat:Int)+(t'.toNat:Int)):=⟨_,rfl⟩
  rw[<-hx]at HT
  have HX:=M0 hx
  have HTY:=M0 ht
  clear hx ht h2
  refine HT.mono ?_
  rintro ee w3 ⟨rfl,h1,g1⟩
  clear x0 x1 x2 x3 x4 x5 x6 x7 x8 x9 x10 x11 x12 x13 f1 HT
  have S5:=M0 (S4.next h1 g1)
  have S6:=M0 (S5.sets [(12,Vb Ve x)] (cs':=(rF a.toNat b.toNat c.toNat d.toNat e.toNat f.toNat a'.toNat b'.toNat c'.toNat d'.toNat e'.toNat f'.toNat x ⟨#[]⟩)) rfl)
  obtain⟨x0,x1,x2,x3,x4,x5,x6,x7,x8,x9,x10,x11,x12,x13⟩:=zL S5.var
  have f1:=S5.free.1
  clear h1 g1 S4 S5
  go_wp2_with fail
  cases hl:og.ko ⟨r.toArray⟩with
  |false=>
   refine(Gz _ _ _ S6.D8 (by simp only[aj]at hs;omega) hl).mono ?_
   rintro ee v ⟨rfl,g⟩
   exact⟨rfl,Em (gH S6.grown g) HTY (by rw[ay hl])⟩
  |true=>
   refine(IL _ _ _ S6.D8 (by simp only[aj]at hs;omega) hl).mono ?_
   rintro ee w4 ⟨rfl,h1,g1⟩
   have HLD:=M0 hl
   clear x0 x1 x2 x3 x4 x5 x6 x7 x8 x9 x10 x11 x12 x13 f1 hl
   have S7:=M0 (S6.next h1 g1)
   have HG:=M0 ((S7.set 13 (.string ⟨r.toArray⟩)).done [(0,Vb Vd a.toNat),(1,Vb Vd b.toNat),(2,Vb Vd c.toNat),(3,Vb Vd d.toNat),(4,Vb Vd e.toNat),(5,Vb Vd f.toNat),(6,Vb Vd a'.toNat),(7,Vb Vd b'.toNat),(8,Vb Vd c'.toNat),(9,Vb Vd d'.toNat),(10,Vb Vd e'.toNat),(11,Vb Vd f'.toNat),(12,Vb Ve x),(13,.string ⟨r.toArray⟩)])
   obtain⟨x0,x1,x2,x3,x4,x5,x6,x7,x8,x9,x10,x11,x12,x13⟩:=zL S7.var
   obtain⟨y0,y1,y2,y3,y4,y5,y6,y7,y8,y9,y10,y11,y12,y13⟩:=zL S7.res
   obtain⟨f1,f2⟩:=S7.free
   clear h1 g1 S6 S7
   go_wp2
   refine Vl (v:=.agg (rF a.toNat b.toNat c.toNat d.toNat e.toNat f.toNat a'.toNat b'.toNat c'.toNat d'.toNat e'.toNat f'.toNat x ⟨r.toArray⟩)) (by simp[results,results57,go_sem,x0,x1,x2,x3,x4,x5,x6,x7,x8,x9,x10,x11,x12,x13,y0,y1,y2,y3,y4,y5,y6,y7,y8,y9,y10,y11,y12,y13,f1,f2]) rfl ?_
   exact Em HG HTY (by rw[ax (by rw[gB HLD];decide),gB HX])
theorem FC.out{a b c d e f a' b' c' d' e' f' t t':UInt8}{r:List UInt8}{B:Nat}{w w':fV}{ee:Ending}(h:FC (a::b::c::d::e::f::a'::b'::c'::d'::e'::f'::t::t'::r) B w ee w'):if og.X6 (256*(t.toNat:Int)+(t'.toNat:Int))=false then ee=.panicked (iH 3)else if og.ko ⟨r.toArray⟩=false then ee=.panicked (iH 7)else ee=.returned (.agg (rF a.toNat b.toNat c.toNat d.toNat e.toNat f.toNat a'.toNat b'.toNat c'.toNat d'.toNat e'.toNat f'.toNat (256*(t.toNat:Int)+(t'.toNat:Int)) ⟨r.toArray⟩)):=h.2
section
variable(B:Nat) (a b c d e f a' b' c' d' e' f' t t':UInt8) (l:List UInt8) (w:fV) (h:iL w B (a::b::c::d::e::f::a'::b'::c'::d'::e'::f'::t::t'::l)) (hs:l.length≤1099511627000)
include h hs
theorem zO{Q:Ending->Prop}(hQ:∀ee,(if og.X6 (256*(t.toNat:Int)+(t'.toNat:Int))=false then ee=.panicked (iH 3)else if og.ko ⟨l.toArray⟩=false then ee=.panicked (iH 7)else ee=.returned (.agg (rF a.toNat b.toNat c.toNat d.toNat e.toNat f.toNat a'.toNat b'.toNat c'.toNat d'.toNat e'.toNat f'.toNat (256*(t.toNat:Int)+(t'.toNat:Int)) ⟨l.toArray⟩)))->Q ee):f_ Vh 57 #[p_ B] w fun ee w'=>Q ee/\w.grownBy w' (some B):=
 (Cr B _ w h (by simp only[aj];omega)).mono fun ee _ q=>⟨hQ ee q.out,q.1⟩
theorem Ad(ht:og.X6 (256*(t.toNat:Int)+(t'.toNat:Int))=true)(hl:og.ko ⟨l.toArray⟩=true):f_ Vh 57 #[p_ B] w fun ee w'=>ee=.returned (.agg (rF a.toNat b.toNat c.toNat d.toNat e.toNat f.toNat a'.toNat b'.toNat c'.toNat d'.toNat e'.toNat f'.toNat (256*(t.toNat:Int)+(t'.toNat:Int)) ⟨l.toArray⟩))/\w.grownBy w' (some B):=zO B a b c d e f a' b' c' d' e' f' t t' l w h hs fun ee q=>by rwa [ax (by rw[ht];decide),ax (by rw[hl];decide)]at q
end
end gP
namespace Tf
theorem ZJ{l:List UInt8}(h:iM l=true):(0:UInt8) ∉ l:=by
 intro h0
 simp only[iM,dw]at h
 have q:=List.all_eq_true.1 h.2 0 h0
 revert q
 decide
theorem ZP(a b:List UInt8)(h:(0:UInt8) ∉ a):cut (a++ [0]++b)=some (a,b):=by
 rw[bg];exact Uc a b h
theorem YG:∀fs:pO,fs.all Qn=true->kV (nW fs)=some fs
 |[],_=>FX
 |f::r,h=>by
  simp only[List.all_cons,dw]at h
  obtain⟨hf,hr⟩:=h
  have ih:=YG r hr
  simp only[Qn,dw,beq_iff_eq]at hf
  obtain⟨⟨hn,hl⟩,hv⟩:=hf
  have e:nW (f::r)=f.1++ [0]++(f.2++ [0]++nW r):=by simp[nW,Uu]
  have hne:nW (f::r)≠ []:=by rw[e];simp
  have c1:cut (nW (f::r))=some (f.1,f.2++ [0]++nW r):=by rw[e];exact ZP _ _ (ZJ hn)
  have c2:cut (f.2++ [0]++nW r)=some (f.2,nW r):=ZP _ _ (ZJ hv)
  rw[Pe hne c1 c2 hn hv,ih,hl]
theorem Za(fs:pO)(h:yK fs=true):Qr (nW fs)=some fs:=by
 simp only[yK,dw]at h
 unfold Qr
 rw[YG fs h.1]
 simp only[h.2,fE]
theorem WL(n:Nat)(h:n<65536)(r:List UInt8):((TU n++r).getD 0 0).toNat*256+((TU n++r).getD 1 0).toNat=n:=by
 simp only[TU,kD,bY,List.getD_cons_zero,List.getD_cons_succ]
 rw[fo,fo]
 omega
theorem aq9:pg Qy=Qy:=by decide
def ZO(m:RH):Prop:=(m.op=1->m.block=0/\m.data=[])/\(m.op=6->m.block=0/\m.text=[]/\m.data=[])/\(m.op=3->m.text=[]/\m.fs=[])/\(m.op=4->m.text=[]/\m.data=[]/\m.fs=[])/\(m.op=5->m.data=[]/\m.fs=[])
theorem aM0(m:RH)(hk:UU m=0)(hp:ZO m)(hb:m.block<65536):U5 (U7 m)=(0,m):=by
 have ht:RS m=true:=by
  cases h:RS m with
  |true=>rfl
  |false=>unfold UU at hk;rw[ay h]at hk;simp at hk
 have hlen: ¬(m.op=3/\1024<m.data.length):=by
  intro h
  unfold UU at hk
  rw[ax (by rw[ht];simp),ay h]at hk
  simp at hk
 have hw:U7 m=Mq m:=by unfold U7;rw[ay hk]
 rw[hw]
 obtain⟨op,bl,tx,da,fs⟩:=m
 obtain⟨p1,p6,p3,p4,p5⟩:=hp
 simp only at hb hlen p1 p6 p3 p4 p5
 unfold RS at ht
 simp only at ht
 have two:∀(n:Nat) (r:List UInt8),¬(TU n++r).length<2:=fun n r=>by simp[TU]
 have drp:∀(n:Nat) (r:List UInt8),(TU n++r).drop 2=r:=fun n r=>by simp[TU]
 by_cases o1:op=1
 ·subst o1
  obtain⟨rfl,rfl⟩:=p1 rfl
  simp only[fE,dw]at ht
  have e:Mq ⟨1,0,tx,[],fs⟩=TU 1++(tx++ [0]++(Qy++ [0]++nW fs)):=by simp[Mq]
  rw[e]
  unfold U5
  rw[ax (two _ _),WL 1 (by decide),drp]
  simp only[fE]
  rw[ZP tx _ (ZJ ht.1)]
  simp only[ht.1]
  rw[ZP Qy _ (by decide)]
  simp only[aq9,Za fs ht.2]
  simp
 by_cases o6:op=6
 ·subst o6
  obtain⟨rfl,rfl,rfl⟩:=p6 rfl
  simp only[show ¬(6:Nat)=1 by decide,fD,fE]at ht
  have e:Mq ⟨6,0,[],[],fs⟩=TU 6++nW fs:=by simp[Mq]
  rw[e]
  unfold U5
  rw[ax (two _ _),WL 6 (by decide),drp]
  simp[Za fs ht]
 rw[ax o1,ax o6]at ht
 have h345:op=3∨op=4∨op=5:=by
  by_cases o5:op=5
  ·exact aA (aA o5)
  ·rw[ax o5]at ht
   simp only[Bool.or_eq_true,beq_iff_eq]at ht
   rcases ht with h|h
   ·exact au h
   ·exact aA (au h)
 rcases h345 with rfl|rfl|rfl
 ·obtain⟨rfl,rfl⟩:=p3 rfl
  have e:Mq ⟨3,bl,[],da,[]⟩=TU 3++(TU bl++da):=by simp[Mq]
  rw[e]
  unfold U5
  rw[ax (two _ _),WL 3 (by decide),drp]
  simp only[show ¬(3:Nat)=1 by decide,show ¬(3:Nat)=6 by decide,fD,true_or,fE]
  rw[ax (two _ _),WL bl hb,drp,ax (by intro h;exact hlen ⟨rfl,h⟩)]
 ·obtain⟨rfl,rfl,rfl⟩:=p4 rfl
  have e:Mq ⟨4,bl,[],[],[]⟩=TU 4++(TU bl++ []):=by simp[Mq]
  rw[e]
  unfold U5
  rw[ax (two _ _),WL 4 (by decide),drp]
  simp only[show ¬(4:Nat)=1 by decide,show ¬(4:Nat)=6 by decide,show ¬(4:Nat)=3 by decide,fD,true_or,or_true,fE]
  rw[ax (two _ _),WL bl hb,drp,ay rfl]
 ·obtain⟨rfl,rfl⟩:=p5 rfl
  simp only[fE,Bool.not_eq_true']at ht
  have h0:(0:UInt8) ∉ tx:=by simpa using ht
  have e:Mq ⟨5,bl,tx,[],[]⟩=TU 5++(TU bl++(tx++ [0]++ [])):=by simp[Mq]
  rw[e]
  unfold U5
  rw[ax (two _ _),WL 5 (by decide),drp]
  simp only[show ¬(5:Nat)=1 by decide,show ¬(5:Nat)=6 by decide,show ¬(5:Nat)=3 by decide,show ¬(5:Nat)=4 by decide,fD,or_true,fE]
  rw[ax (two _ _),WL bl hb,drp,ZP tx [] h0]
  simp
end Tf
namespace Dh
open Bs
open Rd (iL iH jD iR)
theorem wW:(prog.info? 9).map (fun i=>(i.zero,i.size,i.bytes))=some (some (.string ⟨#[]⟩),1,16):=by kernel_rfl
theorem Jy(a:Option Addr)(cap:Nat)(os:gU)(w:fV)(hA:At w a os)(hl:heavy os<=268435456):
  f_ Vh 228 #[.slice a os.length cap,Vb Vd 52] w fun e w'=>
   e=.returned (.tuple #[.string ⟨(data os 52).toArray⟩,.bool (has os 52)])/\gm w.heap.size w w':=nN a cap os 52 w hA hl
theorem GA(a:Option Addr)(cap:Nat)(os:gU)(w:fV)(hA:At w a os)(hl:heavy os<=268435456):
  f_ Vh 229 #[.slice a os.length cap,Vb Vd 52] w fun e w'=>
   ∃v,e=.returned v/\w'.ownsRow w.heap.size 138 2 v (drop os 52).length (gT (drop os 52))/\gm w.heap.size w w':=Ea a cap os 52 w hA hl
def pE(d:List UInt8)(host file:ByteArray):List ByteArray:=(if m_ d then [file]else [])++(if yX d then [host]else [])
def Eu(os:gU)(host file:ByteArray)(w:fV)(e:Ending)(w':fV):Prop:=
 gm w.heap.size w w'/\(if has os 52 then(if kM (data os 52)then ∃v,e=.returned v/\w'.ownsRow w.heap.size 9 1 v (pE (data os 52) host file).length ((pE (data os 52) host file).map Value.string)else e=.panicked (iH 2))else e=.returned (.slice none 0 0))
theorem Ki(a:Option Addr)(cap:Nat)(os:gU)(host file:ByteArray)(w:fV)(hA:At w a os)(hl:heavy os<=268435456):
  f_ Vh 227 #[.slice a os.length cap,.string host,.string file] w fun e w'=>Eu os host file w e w':=by
 obtain⟨i0,hi,hz0,hz1,hz2⟩:=Vx wW
 have HD:=M0 (Jy a cap os w hA hl)
 unfold Eu
 obtain⟨d,hd⟩:∃d,d=data os 52:=⟨_,rfl⟩
 obtain⟨p,hp⟩:∃p,p=has os 52:=⟨_,rfl⟩
 rw[<-hd,<-hp]at HD ⊢
 clear hA hd hp
 cases p with
 |false=>
  go_enter func227,ntmps227
  go_wp2_with fail
  refine HD.mono ?_
  rintro e w1 ⟨rfl,hb1⟩
  have HB1:=M0 hb1
  have hz1w:=hb1.size
  clear hb1 HD
  go_wp2
  go_ret
  exact⟨HB1,rfl⟩
 |true=>
  match d with
  |[]=>
   go_enter func227,ntmps227
   go_wp2_with fail
   refine HD.mono ?_
   rintro e w1 ⟨rfl,hb1⟩
   have HB1:=M0 hb1
   have hz1w:=hb1.size
   clear hb1 HD
   go_wp2_with fail
   refine(iR _ (by simp) _ _).mono ?_
   rintro e w2 ⟨rfl,rfl⟩
   exact⟨rfl,HB1,rfl⟩
  |x::y::r=>
   have hsz:(⟨(x::y::r).toArray⟩:ByteArray).size=r.length+2:=by rw[gL];simp
   obtain⟨s,hs⟩:∃s:ByteArray,s=⟨(x::y::r).toArray⟩:=⟨_,rfl⟩
   rw[<-hs]at hsz HD
   have hne:((s.size:Int)==1)=false:=by simp;omega
   clear hs hsz
   go_enter func227,ntmps227
   go_wp2_with fail
   refine HD.mono ?_
   rintro e w1 ⟨rfl,hb1⟩
   have HB1:=M0 hb1
   have hz1w:=hb1.size
   clear hb1 HD
   go_wp2_with fail
   refine(iR _ (by simp) _ _).mono ?_
   rintro e w2 ⟨rfl,rfl⟩
   exact⟨rfl,HB1,rfl⟩
  |[x]=>
   have hx8:=x.toNat_lt
   have hix:∀u,(Instr.index 9 (.string ⟨#[x]⟩) (Vb Vg 0)).run Vh u=.ok (Vb Vd x.toNat) u:=fun _=>by kernel_rfl
   by_cases hok:1<=x.toNat/\x.toNat<=3
   ·have hcase:x.toNat=1∨x.toNat=2∨x.toNat=3:=by omega
    have hAD:kM [x]=true:=by simp[kM,hok]
    rw[hAD]
    rcases hcase with e0|e0|e0
    ·rw[e0]at hix
     have hS:pE [x] host file=[file]:=by simp[pE,m_,yX,e0]
     rw[hS]
     clear hok hAD e0 hx8 hS
     go_enter func227,ntmps227
     go_wp2_with fail
     refine HD.mono ?_
     rintro e w1 ⟨rfl,hb1⟩
     have HB1:=M0 hb1
     have hz1w:=hb1.size
     clear hb1 HD
     go_wp2_with fail
     refine(jD _ (by simp) _ _).mono ?_
     rintro e w2 ⟨rfl,rfl⟩
     go_wp2_with (at_builtin;refine Vv _ rfl (.tmp 35) (.tmp 37) 44 rfl w.heap.size 9 i0 (.string ⟨#[]⟩) 1 16 vz hi hz0 hz1 hz2 rfl (by decide) _ 0 [] rfl ((Vp _ _ _ _)) (a_ w2.heap.size 0) 1 1 [.string file] rfl rfl ?c1 ?one ?h63 ?hby ?hba ?_)
     case c1=>exact iW w2 [.string file] 9
     case one=>intro u hu;simp at hu;subst hu;rfl
     case h63=>simp only[maxLen];omega
     case hby=>omega
     case hba=>simp;omega
     ·intro A wA hownA hgA _
      obtain⟨ao,cp,hv⟩:=ib hownA
      subst hv
      have hBB:gm w.heap.size w wA:=(HB1.alloc hz1w _).grown hgA (by simp;omega) (fun k hk=>by simp[Value.ownBlock]at hk)
      have OO:=M0 hownA
      have BB:=M0 hBB
      clear hownA hgA hBB
      go_wp2
      go_ret
      exact⟨BB,_,rfl,OO⟩
    ·rw[e0]at hix
     have hS:pE [x] host file=[host]:=by simp[pE,m_,yX,e0]
     rw[hS]
     clear hok hAD e0 hx8 hS
     go_enter func227,ntmps227
     go_wp2_with fail
     refine HD.mono ?_
     rintro e w1 ⟨rfl,hb1⟩
     have HB1:=M0 hb1
     have hz1w:=hb1.size
     clear hb1 HD
     go_wp2_with fail
     refine(jD _ (by simp) _ _).mono ?_
     rintro e w2 ⟨rfl,rfl⟩
     go_wp2_with (at_builtin;refine Vv _ rfl (.tmp 43) (.tmp 45) 44 rfl w.heap.size 9 i0 (.string ⟨#[]⟩) 1 16 vz hi hz0 hz1 hz2 rfl (by decide) _ 0 [] rfl ((Vp _ _ _ _)) (a_ w2.heap.size 0) 1 1 [.string host] rfl rfl ?c1 ?one ?h63 ?hby ?hba ?_)
     case c1=>exact iW w2 [.string host] 9
     case one=>intro u hu;simp at hu;subst hu;rfl
     case h63=>simp only[maxLen];omega
     case hby=>omega
     case hba=>simp;omega
     ·intro A wA hownA hgA _
      obtain⟨ao,cp,hv⟩:=ib hownA
      subst hv
      have hBB:gm w.heap.size w wA:=(HB1.alloc hz1w _).grown hgA (by simp;omega) (fun k hk=>by simp[Value.ownBlock]at hk)
      have OO:=M0 hownA
      have BB:=M0 hBB
      clear hownA hgA hBB
      go_wp2
      go_ret
      exact⟨BB,_,rfl,OO⟩
    ·rw[e0]at hix
     have hS:pE [x] host file=[file,host]:=by simp[pE,m_,yX,e0]
     rw[hS]
     clear hok hAD e0 hx8 hS
     go_enter func227,ntmps227
     go_wp2_with fail
     refine HD.mono ?_
     rintro e w1 ⟨rfl,hb1⟩
     have HB1:=M0 hb1
     have hz1w:=hb1.size
     clear hb1 HD
     go_wp2_with fail
     refine(jD _ (by simp) _ _).mono ?_
     rintro e w2 ⟨rfl,rfl⟩
     go_wp2_with (at_builtin;refine Vv _ rfl (.tmp 35) (.tmp 37) 44 rfl w.heap.size 9 i0 (.string ⟨#[]⟩) 1 16 vz hi hz0 hz1 hz2 rfl (by decide) _ 0 [] rfl ((Vp _ _ _ _)) (a_ w2.heap.size 0) 1 1 [.string file] rfl rfl ?c1 ?one ?h63 ?hby ?hba ?_)
     case c1=>exact iW w2 [.string file] 9
     case one=>intro u hu;simp at hu;subst hu;rfl
     case h63=>simp only[maxLen];omega
     case hby=>omega
     case hba=>simp;omega
     ·intro A wA hownA hgA _
      obtain⟨ao,cp,hv⟩:=ib hownA
      have hBA:gm w.heap.size w wA:=(HB1.alloc hz1w _).grown hgA (by simp;omega) (fun k hk=>by simp[Value.ownBlock]at hk)
      have hzA:=hBA.size
      have OA:=M0 hownA
      have BA:=M0 hBA
      clear hownA hgA hBA
      subst hv
      go_wp2_with (at_builtin;refine Vv _ rfl (.tmp 43) (.tmp 45) 44 rfl w.heap.size 9 i0 (.string ⟨#[]⟩) 1 16 vz hi hz0 hz1 hz2 rfl (by decide) _ 1 [.string file] rfl ((OA.alloc _)) (a_ wA.heap.size 0) 1 1 [.string host] rfl rfl ?c1 ?one ?h63 ?hby ?hba ?_)
      case c1=>exact iW wA [.string host] 9
      case one=>intro u hu;simp at hu;subst hu;rfl
      case h63=>simp only[maxLen];omega
      case hby=>omega
      case hba=>simp;omega
      ·intro B wB hownB hgB _
       obtain⟨ao,cp,hv⟩:=ib hownB
       subst hv
       have hBB:gm w.heap.size w wB:=(BA.alloc hzA _).grown hgB (by simp;omega) (fun k hk=>(OA.lt k hk).1)
       have OO:=M0 hownB
       have BB:=M0 hBB
       clear hownB hgB hBB
       go_wp2
       go_ret
       exact⟨BB,_,rfl,OO⟩
   ·have hAD:kM [x]=false:=by simp[kM];omega
    rw[hAD]
    by_cases e0:x.toNat=0
    ·rw[e0]at hix
     clear hok hAD e0 hx8
     go_enter func227,ntmps227
     go_wp2_with fail
     refine HD.mono ?_
     rintro e w1 ⟨rfl,hb1⟩
     have HB1:=M0 hb1
     have hz1w:=hb1.size
     clear hb1 HD
     go_wp2_with fail
     refine(iR _ (by simp) _ _).mono ?_
     rintro e w2 ⟨rfl,rfl⟩
     exact⟨rfl,HB1,rfl⟩
    ·have q0:(((x.toNat:Nat):Int)!=0)=true:=by simp;omega
     have q1: ¬((x.toNat:Nat):Int)<=3:=by omega
     clear hok hAD e0 hx8
     go_enter func227,ntmps227
     go_wp2_with fail
     refine HD.mono ?_
     rintro e w1 ⟨rfl,hb1⟩
     have HB1:=M0 hb1
     have hz1w:=hb1.size
     clear hb1 HD
     go_wp2_with fail
     refine(iR _ (by simp;omega) _ _).mono ?_
     rintro e w2 ⟨rfl,rfl⟩
     exact⟨rfl,HB1,rfl⟩
end Dh
namespace Dh
open Bs
open Rd (gH)
structure J1 (w wr:fV) (pd pt:List Pc) (v5:Value) (outs:List Pc) (V:Nat->Value):Prop where
 row:o_ wr w.heap.size 305 V
 told:o_ wr (w.heap.size+1) 306 (fun j=>.bool (has pt (UInt8.ofNat j)))
 own:∀j,j<256->wr.ownsRow (w.heap.size+2) 5 1 (V j) (data pd (UInt8.ofNat j)).length (gY (data pd (UInt8.ofNat j)))
 apart:∀i j g,i<256->j<256->i≠j->(V i).ownBlock=some g->(V j).ownBlock≠some g
 out:wr.ownsRow (w.heap.size+2) 138 2 v5 outs.length (gT outs)
 below:gm w.heap.size w wr
theorem kinds{wr:fV}{b:Nat}{v v5:Value}{n m:Nat}{xs ys:List Value}(h:wr.ownsRow b 5 1 v n xs)(h5:wr.ownsRow b 138 2 v5 m ys):∀g,v.ownBlock=some g->v5.ownBlock≠some g:=fun g hg h5g=>by
 obtain⟨c,fz,e1⟩:=Lib.ownsRow_kind h g hg
 obtain⟨c',fz',e2⟩:=Lib.ownsRow_kind h5 g h5g
 rw[e1]at e2
 simp at e2
theorem not_row{r:Option Nat}{v:Value}(h:∀g,v.ownBlock=some g->r≠some g):v.ownBlock=none∨v.ownBlock≠r:=by
 cases hv:v.ownBlock with
 |none=>exact au rfl
 |some g=>exact aA (fun e=>h g hv e.symm)
theorem vX(c:UInt8):UInt8.ofNat c.toNat=c:=by simp
theorem BU{c:UInt8}{j:Nat}(hj:j<256)(h: ¬j=c.toNat): ¬c=UInt8.ofNat j:=fun e=>h (by
 rw[e,fo];omega)
theorem J1.TA{w wr w1:fV}{ps:List Pc}{v5 v':Value}{outs:List Pc}{V:Nat->Value}(h:J1 w wr ps ps v5 outs V)(c:UInt8)(d:List UInt8)(n:Nat)(hn:n=(data ps c).length+d.length)
  (hown:w1.ownsRow (w.heap.size+2) 5 1 v' n (gY (data ps c)++gY d)) (hg:wr.grownBy w1 (V c.toNat).ownBlock)
  (hat:v'.ownBlock=(V c.toNat).ownBlock∨∀g,v'.ownBlock=some g->wr.heap.size<=g):
  J1 w (w1.setCell (a_ w.heap.size c.toNat) v') (ps++ [(c,d)]) ps v5 outs (fun j=>if j=c.toNat then v' else V j):=by
 have hc:=c.toNat_lt
 have hX:∀g,(V c.toNat).ownBlock=some g->w.heap.size+2<=g/\g<wr.heap.size:=fun g hg=>(h.own c.toNat hc).lt g hg
 have hD:w1.heap[w.heap.size]?=wr.heap[w.heap.size]?:=hg.block _ h.row.lt (fun e=>by have:=(hX _ e.symm).1;omega)
 have hT:w1.heap[w.heap.size+1]?=wr.heap[w.heap.size+1]?:=hg.block _ h.told.lt (fun e=>by have:=(hX _ e.symm).1;omega)
 have r1:=(h.row.kept hD).set c.toNat hc v'
 refine⟨r1,?_,?_,?_,?_,?_⟩
 ·exact(h.told.kept hT).kept (R8 _ _ _ _ (by simp))
 ·intro j hj
  by_cases e:j=c.toNat
  ·subst e
   simp only[ay]
   refine VC ?_ (by show w.heap.size<_;omega) _
   rw[vX,qx,ay rfl,ak,pY,<-hn]
   exact hown
  ·simp only[ax e]
   refine VC ?_ (by show w.heap.size<_;omega) _
   rw[qx,ax (BU hj e),bn]
   exact(h.own j hj).kept hg (not_row (fun g hgj hX=>h.apart c.toNat j g hc hj (fun e'=>e e'.symm) hX hgj))
 ·intro i j g hi hj hij hvi hvj
  by_cases ei:i=c.toNat
  ·have ej: ¬j=c.toNat:=fun e=>hij (ei.trans e.symm)
   simp only[ay ei]at hvi
   simp only[ax ej]at hvj
   rcases hat with hat|hat
   ·rw[hat]at hvi
    exact h.apart c.toNat j g hc hj (fun e=>ej e.symm) hvi hvj
   ·have h1:=hat g hvi
    have h2:=((h.own j hj).lt g hvj).2
    omega
  ·simp only[ax ei]at hvi
   by_cases ej:j=c.toNat
   ·simp only[ay ej]at hvj
    rcases hat with hat|hat
    ·rw[hat]at hvj
     exact h.apart i c.toNat g hi hc ei hvi hvj
    ·have h1:=hat g hvj
     have h2:=((h.own i hi).lt g hvi).2
     omega
   ·simp only[ax ej]at hvj
    exact h.apart i j g hi hj hij hvi hvj
 ·refine VC (h.out.kept hg (not_row (fun g hg5 hXg=>kinds (h.own c.toNat hc) h.out g hXg hg5))) (by show w.heap.size<_;omega) _
 ·exact(h.below.grown hg h.below.size (fun g hgg=>by have:=(hX g hgg).1;omega)).setCell (ai _) _
theorem J1.Sa{w wr:fV}{ps:List Pc}{v5:Value}{outs:List Pc}{V:Nat->Value}{c:UInt8}{d:List UInt8}(h:J1 w wr (ps++ [(c,d)]) ps v5 outs V)(hc:has ps c=true):J1 w wr (ps++ [(c,d)]) (ps++ [(c,d)]) v5 outs V:=
 ⟨h.row,h.told.same (fun j hj=>by
  rw[sZ]
  by_cases e:c=UInt8.ofNat j
  ·rw[<-e,hc];rfl
  ·have:(c==UInt8.ofNat j)=false:=by simpa using e
   rw[this,fK]),h.own,h.apart,h.out,h.below⟩
theorem J1.stepT{w wr:fV}{ps:List Pc}{v5:Value}{outs:List Pc}{V:Nat->Value}{c:UInt8}{d:List UInt8}(h:J1 w wr (ps++ [(c,d)]) ps v5 outs V):J1 w (wr.setCell (a_ (w.heap.size+1) c.toNat) (.bool true)) (ps++ [(c,d)]) (ps++ [(c,d)]) v5 outs V:=
 ⟨h.row.kept (R8 _ _ _ _ (by simp)),(h.told.set c.toNat c.toNat_lt (.bool true)).same (fun j hj=>by
  by_cases e:j=c.toNat
  ·subst e
   simp only[ay]
   rw[vX,sZ];simp
  ·simp only[ax e]
   rw[sZ]
   have:=BU hj e
   have hb:(c==UInt8.ofNat j)=false:=by simpa using this
   rw[hb,fK]),fun j hj=>VC (h.own j hj) (by show w.heap.size+1<_;omega) _,h.apart,VC h.out (by show w.heap.size+1<_;omega) _,h.below.setCell (by simp) _⟩
theorem J1.SI{w wr w4:fV}{pd pt:List Pc}{v5 v':Value}{outs:List Pc}{V:Nat->Value}(h:J1 w wr pd pt v5 outs V)(o:Pc)(n:Nat)(hn:n=outs.length+1)
  (hown:w4.ownsRow (w.heap.size+2) 138 2 v' n (gT outs++gT [o])) (hg:wr.grownBy w4 v5.ownBlock):J1 w w4 pd pt v' (outs++ [o]) V:=by
 have hX:∀g,v5.ownBlock=some g->w.heap.size+2<=g/\g<wr.heap.size:=fun g hg=>h.out.lt g hg
 refine⟨h.row.kept (hg.block _ h.row.lt (fun e=>by have:=(hX _ e.symm).1;omega)),h.told.kept (hg.block _ h.told.lt (fun e=>by have:=(hX _ e.symm).1;omega)),fun j hj=>(h.own j hj).kept hg (not_row (fun g hgj=>kinds (h.own j hj) h.out g hgj)),h.apart,?_,h.below.grown hg h.below.size (fun g hgg=>by have:=(hX g hgg).1;omega)⟩
 rw[ak,iV]
 rw[hn]at hown
 exact hown
theorem zH(outs:List Pc)(i:Nat)(hi:i<outs.length)(d:List UInt8):(gT outs).set (i*2+1) (.string ⟨d.toArray⟩)=gT (outs.set i ((outs[i]).1,d)):=by
 induction outs generalizing i with
 |nil=>simp at hi
 |cons o r ih=>
  cases i with
  |zero=>rfl
  |succ i=>
   have:=ih i (by simpa using hi)
   simp only[gT,bF,af,dP]at this ⊢
   rw[<-this,show(i+1)*2+1=i*2+1+1+1 by omega]
   rfl
theorem J1.SG{w wr:fV}{pd pt:List Pc}{g cap:Nat}{outs:List Pc}{V:Nat->Value}(h:J1 w wr pd pt (.slice (some (a_ g 0)) outs.length cap) outs V)(i:Nat)(hi:i<outs.length)(d:List UInt8):
  J1 w (wr.setCell (a_ g (i*2+1)) (.string ⟨d.toArray⟩)) pd pt (.slice (some (a_ g 0)) outs.length cap) (outs.set i ((outs[i]).1,d)) V:=by
 have hX:=h.out.lt g rfl
 obtain⟨s1,s2⟩:=h.out.stored (i*2+1) (.string ⟨d.toArray⟩)
 refine⟨h.row.kept (R8 _ _ _ _ (by simp;omega)),h.told.kept (R8 _ _ _ _ (by simp;omega)),fun j hj=>ownsRow_setCell_other (h.own j hj) (fun e=>kinds (h.own j hj) h.out g e rfl) _,h.apart,?_,h.below.setCell (by show w.heap.size<=g;omega) _⟩
 rw[zH outs i hi d]at s1
 rw[bO]
 exact s1
end Dh
namespace Dh
def chunks(c:UInt8)(d:List UInt8):List Pc:=
 if 255<d.length then(c,d.take 255)::chunks c (d.drop 255)else [(c,d)]
termination_by d.length
decreasing_by simp;omega
theorem Xb(c:UInt8)(d:List UInt8)(h:255<d.length):chunks c d=(c,d.take 255)::chunks c (d.drop 255):=by
 rw[chunks,ay h]
theorem WT(c:UInt8)(d:List UInt8)(h: ¬255<d.length):chunks c d=[(c,d)]:=by
 rw[chunks,ax h]
theorem Zw(c n:UInt8)(q r:List UInt8)(h0:c.toNat≠0)(h1:c.toNat≠255)(hn:q.length=n.toNat):pieces (c::n::(q++r))=(pieces r).map fun ps=>(c,q)::ps:=by
 rw[pieces]
 simp only[h0,h1,fD]
 rw[ax (by rw[ak];omega),<-hn,List.drop_left,Gr]
theorem Zh(c:UInt8)(d r:List UInt8)(h0:c.toNat≠0)(h1:c.toNat≠255):pieces (qc c d++r)=(pieces r).map fun ps=>chunks c d++ps:=by
 by_cases h:255<d.length
 ·have ih:=Zh c (d.drop 255) r h0 h1
  rw[ny c d h,Xb c d h]
  rw[kD,kD,bg,Zw c 255 (d.take 255) _ h0 h1 (by rw[aT];show min 255 d.length=255;omega),ih]
  cases pieces r<;>simp
 ·rw[mq c d h,WT c d h,kD,kD,Zw c (UInt8.ofNat d.length) d r h0 h1 (by rw[rz (by show d.length<256;omega)])]
  rfl
termination_by d.length
decreasing_by simp;omega
def Wu(os:gU):List Pc:=os.flatMap fun o=>chunks o.1 o.2
theorem YW:∀(os:gU) (z:List UInt8),bad os=false->pieces (jb os++255::z)=some (Wu os)
 |[],z,_=>by
  show pieces (255::z)=some []
  rw[pieces.eq_def];simp
 |o::r,z,h=>by
  simp only[bad,eO,gp]at h
  have ih:=YW r z h.2
  have hb:=h.1
  simp only[sj,gp,aD]at hb
  have e:jb (o::r)++255::z=qc o.1 o.2++(jb r++255::z):=by simp[jb]
  rw[e,Zh _ _ _ hb.1.1 hb.2,ih]
  simp[Wu]
theorem add_add(l:List Pc)(c:UInt8)(x y:List UInt8):add (add l (c,x)) (c,y)=add l (c,x++y):=by
 induction l with
 |nil=>simp[add]
 |cons a r ih=>
  by_cases h:a.1=c
  ·simp[add,h]
  ·simp only[add,h,fD];rw[ih]
theorem YT(l:List Pc)(c:UInt8)(x d:List UInt8):gW (add l (c,x)) (chunks c d)=add l (c,x++d):=by
 by_cases h:255<d.length
 ·have ih:=YT l c (x++d.take 255) (d.drop 255)
  rw[Xb c d h]
  show gW (add (add l (c,x)) (c,d.take 255)) (chunks c (d.drop 255))=_
  rw[add_add,ih,bg,bV]
 ·rw[WT c d h]
  exact add_add l c x d
termination_by d.length
decreasing_by simp;omega
theorem Z0(l:List Pc)(c:UInt8)(d:List UInt8):gW l (chunks c d)=add l (c,d):=by
 by_cases h:255<d.length
 ·rw[Xb c d h]
  show gW (add l (c,d.take 255)) (chunks c (d.drop 255))=_
  rw[YT,bV]
 ·rw[WT c d h];rfl
theorem ai7(l a b:List Pc):gW l (a++b)=gW (gW l a) b:=by simp[gW]
theorem ZH:∀(os:gU) (l:List Pc),gW l (Wu os)=gW l os
 |[],l=>rfl
 |o::r,l=>by
  have e:Wu (o::r)=chunks o.1 o.2++Wu r:=by simp[Wu]
  rw[e,ai7,Z0,ZH r]
  rfl
theorem ZN(c x:UInt8)(d:List UInt8)(h:c≠x):has (chunks c d) x=false:=by
 by_cases h2:255<d.length
 ·have ih:=ZN c x (d.drop 255) h
  rw[Xb c d h2]
  simp only[has,eO,gp]
  exact⟨by simpa using h,ih⟩
 ·rw[WT c d h2]
  simpa[has]using h
termination_by d.length
decreasing_by simp;omega
theorem ZY(os:gU)(h:bad os=false):has (Wu os) 52=false:=by
 induction os with
 |nil=>rfl
 |cons o r ih=>
  simp only[bad,eO,gp]at h
  have hb:=h.1
  simp only[sj,gp,aD]at hb
  have e:Wu (o::r)=chunks o.1 o.2++Wu r:=by simp[Wu]
  rw[e]
  simp only[has,IA,gp]
  exact⟨ZN o.1 52 o.2 (fun e=>hb.1.2 (by rw[e];rfl)),ih h.2⟩
theorem ar6(os:gU)(z host file:List UInt8)(h:bad os=false):nE (jb os++255::z) host file=0/\oW (jb os++255::z) host file=gW [] os:=by
 unfold nE oW
 rw[YW os z h]
 simp only[ZY os h]
 exact⟨rfl,ZH os []⟩
end Dh
end Go.Proofs.YtdgacidndknceaaGreatDoor
