import Derived.Test.YtdgacidndknceaaGreatDoorMg20
import Derived.Laws.Rows
import Derived.Lib.Bytealg
import Derived.Lib.SlicesCompact
set_option linter.all false
set_option maxHeartbeats 8000000
set_option maxRecDepth 10000
open Go.ChangeShapes Go.WideShapes Go.ChangeAt Go.RowKit
open Go renaming World → fV, Calls → f_
open Go.RowKit renaming Below → gm
open Go.Proofs.Tryz renaming prog → Vh
open Go.Value renaming int → Vb
open Go.IntKind renaming u8 → Vd, u16 → Ve, u32 → Vf, i64 → Vg
open Go.Proofs.Tryz
namespace Go.Proofs.YtdgacidndknceaaGreatDoor
namespace WM
open Bs Wt
theorem sM(op:Int)(a b c d e f:UInt8)(fi:Int)(a' b' c' d' e' f':UInt8)(ti:Int)(w:fV)
  (h1:0<=op) (h2:op<=65535) (h3:0<=fi) (h4:fi<=4294967295) (h5:0<=ti) (h6:ti<=4294967295) (hop:(op==1||op==2)=true):
  f_ Vh 64 #[.agg (rE op a.toNat b.toNat c.toNat d.toNat e.toNat f.toNat fi a'.toNat b'.toNat c'.toNat d'.toNat e'.toNat f'.toNat ti)] w fun ee w'=>
   ee=.returned (.tuple #[.string ⟨(GJ op [a,b,c,d,e,f] fi [a',b',c',d',e',f'] ti).toArray⟩,Vb Vg 0])/\gm w.heap.size w w':=by
 have HO:=M0 (oQ op);go_enter func64,ntmps64;go_wp2_with fail;refine(HO _).mono ?_;rintro ee w1 ⟨rfl,rfl⟩;rw[hop];obtain⟨W,hW⟩:=ex_ (w.alloc (.cells (rE op a.toNat b.toNat c.toNat d.toNat e.toNat f.toNat fi a'.toNat b'.toNat c'.toNat d'.toNat e'.toNat f'.toNat ti) 87));have hz:W.heap.size=w.heap.size+1:=by rw[hW];simp
 have n0:=qI W;rw[hz,hW]at n0;have HN:=M0 n0;clear n0 hz hW W;go_wp2_with fail;refine on_ (jC _ _ _ _ _ HN (by simp) (by decide)) ?_;rintro w1 ⟨k1,q1⟩;have r1:=iJ q1 (b:=w.heap.size) (by omega);have K1:=M0 k1;have Q1:=M0 q1;clear k1 q1;go_wp2_with fail;refine on_ (We _ _ _ _ _ K1 rfl (by omega) (by omega) (by simp)) ?_;rintro w2 ⟨k2,q2⟩;have r2:=iJ q2 (b:=w.heap.size) (by omega);have K2:=M0 k2;have Q2:=M0 q2;clear k2 q2;go_wp2_with fail;refine on_ (ow _ _ _ _ _ _ _ _ _ _ K2 rfl (by simp[iy])) ?_;rintro w3 ⟨k3,q3⟩;have r3:=iJ q3 (b:=w.heap.size) (by omega);have K3:=M0 k3;have Q3:=M0 q3;clear k3 q3;go_wp2_with fail;refine on_ (uL _ _ _ _ _ K3 rfl (by omega) (by omega) (by simp[iy])) ?_;rintro w4 ⟨k4,q4⟩;have r4:=iJ q4 (b:=w.heap.size) (by omega);have K4:=M0 k4;have Q4:=M0 q4;clear k4 q4;go_wp2_with fail;refine on_ (ow _ _ _ _ _ _ _ _ _ _ K4 rfl (by simp[iy,g_,iY])) ?_;rintro w5 ⟨k5,q5⟩;have r5:=iJ q5 (b:=w.heap.size) (by omega);have K5:=M0 k5;have Q5:=M0 q5;clear k5 q5;go_wp2_with fail;refine on_ (uL _ _ _ _ _ K5 rfl (by omega) (by omega) (by simp[iy,g_,iY])) ?_;rintro w6 ⟨k6,q6⟩;have r6:=iJ q6 (b:=w.heap.size) (by omega);have K6:=M0 k6;have Q6:=M0 q6;clear k6 q6;go_wp2_with fail;refine(lG _ _ _ K6).mono ?_;rintro ee w7 ⟨rfl,rfl⟩;clear r1 r2 r3 r4 r5 r6;go_wp2;go_ret2;refine⟨rfl,?_⟩;have q:=(((((Q1.trans Q2).trans Q3).trans Q4).trans Q5).trans Q6).below;exact(b1_.alloc (by simp) _).trans (q.mono (by omega))
def Dp(op:Int):Bool:=op==1||op==2
def vE(op:Int)(fm:List UInt8)(fi:Int)(tm:List UInt8)(ti:Int):ByteArray:=if Dp op then⟨(GJ op fm fi tm ti).toArray⟩else⟨#[]⟩
def Bu(op:Int):Int:=if Dp op then 0 else 2
theorem lq(op:Int)(a b c d e f:UInt8)(fi:Int)(a' b' c' d' e' f':UInt8)(ti:Int)(w:fV)
  (h1:0<=op) (h2:op<=65535) (h3:0<=fi) (h4:fi<=4294967295) (h5:0<=ti) (h6:ti<=4294967295):
  f_ Vh 64 #[.agg (rE op a.toNat b.toNat c.toNat d.toNat e.toNat f.toNat fi a'.toNat b'.toNat c'.toNat d'.toNat e'.toNat f'.toNat ti)] w fun ee w'=>
   ee=.returned (.tuple #[.string (vE op [a,b,c,d,e,f] fi [a',b',c',d',e',f'] ti),Vb Vg (Bu op)])/\gm w.heap.size w w':=by
 by_cases hop:Dp op=true
 ·have h:=sM op a b c d e f fi a' b' c' d' e' f' ti w h1 h2 h3 h4 h5 h6 hop
  rw[vE,Bu,aU0 hop,aU0 hop];exact h
 rw[vE,Bu,aT4 hop,aT4 hop];have hop':(op==1||op==2)=false:=by simpa[Dp]using hop
 have HO:=M0 (oQ op);clear hop;go_enter func64,ntmps64;go_wp2_with fail;refine(HO _).mono ?_;rintro ee w1 ⟨rfl,rfl⟩;rw[hop'];go_wp2;go_ret2;exact⟨rfl,(aS8 _ _).alloc (aS5 _) _⟩
theorem Wj(op:Int)(a b c d e f:UInt8)(fi:Int)(a' b' c' d' e' f':UInt8)(ti:Int)(w:fV)
  (h1:0<=op) (h2:op<=65535) (h3:0<=fi) (h4:fi<=4294967295) (h5:0<=ti) (h6:ti<=4294967295):
  f_ Vh 38 #[.agg (rE op a.toNat b.toNat c.toNat d.toNat e.toNat f.toNat fi a'.toNat b'.toNat c'.toNat d'.toNat e'.toNat f'.toNat ti)] w fun ee w'=>
   ee=.returned (.tuple #[.string (vE op [a,b,c,d,e,f] fi [a',b',c',d',e',f'] ti),Vb Vg (Bu op)])/\gm w.heap.size w w':=by
 have HO:=fun w=>M0 (lq op a b c d e f fi a' b' c' d' e' f' ti w h1 h2 h3 h4 h5 h6);go_enter func38,ntmps38;go_wp2_with fail;refine on_ (gB (HO _)) fun w1 hb=>?_;have HB:=M0 hb;clear hb HO;go_wp2;go_ret2;exact⟨rfl,b1_.trans (HB.mono (by simp))⟩
end WM
namespace Tf
def D9(c:UInt8):Bool:=decide (33<=c.toNat/\c.toNat<=126)
def iM(l:List UInt8):Bool:= !l.isEmpty && l.all D9
def DZ(c:UInt8):UInt8:=if 65<=c.toNat/\c.toNat<=90 then UInt8.ofNat (c.toNat+32)else c
def pg(l:List UInt8):List UInt8:=l.map DZ
theorem mE(l:List UInt8):(pg l).length=l.length:=by simp[pg]
theorem vN(c:UInt8):(DZ c).toNat=if 65<=c.toNat/\c.toNat<=90 then c.toNat+32 else c.toNat:=by
 unfold DZ
 split
 ·rw[bf0 (by show _<256;omega)]
 rfl
abbrev Fd:=List UInt8×List UInt8
abbrev pO:=List Fd
def Uu(f:Fd):List UInt8:=f.1++ [0]++(f.2++ [0])
def nW(fs:pO):List UInt8:=fs.flatMap Uu
theorem QV(fs:pO)(k:Nat)(h:k<fs.length):nW (fs.take (k+1))=nW (fs.take k)++Uu fs[k]:=by
 rw[nW,aT5 h,aX4];simp[nW]
theorem SF(fs:pO)(k:Nat):(nW (fs.take k)).length<=(nW fs).length:=by
 have e:nW fs=nW (fs.take k)++nW (fs.drop k):=by
  rw[nW,nW,nW,<-aX4,aX6]
 rw[e,aS9];omega
def lF(fs:pO):Nat:=fs.length+(fs.map fun f=>f.1.length+f.2.length).sum
theorem Qo(fs:pO):(nW fs).length<=2*lF fs:=by
 induction fs with
 |nil=>simp[nW,lF]
 |cons f r ih=>
  simp only[nW,lF,Uu,aY6,aS9,aT0,aU3,aZ1,bh5]at ih ⊢;omega
theorem Et(fs:pO)(k:Nat)(h:k<fs.length):lF (fs.take (k+1))=lF (fs.take k)+1+(fs[k].1.length+fs[k].2.length):=by
 simp only[lF,aT5 h,ba2,bi0,aS9,aT0,aU3,aZ1,be7,bh5,List.sum_nil];omega
theorem Fb(fs:pO)(k:Nat):lF (fs.take k)+(fs.length-k)<=lF fs:=by
 have q:lF (fs.take k++fs.drop k)=lF (fs.take k)+lF (fs.drop k):=by
  simp only[lF,ba2,bi0,aS9];omega
 rw[aX6]at q;have h:(fs.drop k).length<=lF (fs.drop k):=by unfold lF;omega
 rw[aW1]at h;omega
theorem JR(fs:pO)(k:Nat):lF (fs.take k)<=lF fs:=by
 have:=Fb fs k;omega
theorem Ro(fs:pO)(k:Nat)(h:k<fs.length):fs[k].1.length+fs[k].2.length<=lF fs:=by
 have:=Et fs k h;have:=JR fs (k+1);omega
def qa(fs:pO):List (List UInt8):=fs.map Prod.fst
theorem Ol(fs:pO):(qa fs).length=fs.length:=by simp[qa]
theorem FV(fs:pO)(k:Nat):qa (fs.take k)=(qa fs).take k:=by simp[qa,List.map_take]
def Qn(f:Fd):Bool:=iM f.1 && (pg f.1==f.1) && iM f.2
def uT:List (List UInt8)->Bool
 |[]=>true
 |x::r=> !r.contains x && uT r
theorem qG(l:List (List UInt8)):uT l=true↔l.Nodup:=by
 induction l with
 |nil=>simp[uT]
 |cons x r ih=>
  simp only[uT,aZ7,ih,List.nodup_cons];simp
def Ha(fs:pO)(n:List UInt8):Bool:=fs.any fun f=>f.1==n
theorem Ig(fs:pO)(n:List UInt8):Ha fs n=true↔n ∈ qa fs:=by
 simp only[Ha,List.any_eq_true,qa,bj3];constructor
 ·rintro ⟨f,hf,h⟩;exact⟨f,hf,by simpa using h⟩
 rintro ⟨f,hf,h⟩;exact⟨f,hf,by simpa using h⟩
def yK(fs:pO):Bool:=fs.all Qn && uT (qa fs)
theorem GQ{α:Type}(l:List α)(x:α):(l++ [x]).Nodup↔l.Nodup/\x ∉ l:=by
 rw[List.nodup_append];constructor
 ·rintro ⟨h1,_,h3⟩;exact⟨h1,fun hx=>h3 x hx x (by simp) rfl⟩
 rintro ⟨h1,h2⟩;exact⟨h1,by simp,fun a ha b hb=>by simp at hb;subst hb;rintro rfl;exact h2 ha⟩
theorem QG(fs:pO)(k:Nat)(h:k<fs.length):yK (fs.take (k+1))=(yK (fs.take k) && (Qn fs[k] && !Ha (fs.take k) fs[k].1)):=by
 rw[Bool.eq_iff_iff];unfold yK;simp only[aZ7,qG,Bool.not_eq_true',<-Bool.not_eq_true,Ig];rw[aT5 h];simp only[qa,ba2,aZ1,be7,GQ,List.all_append,List.all_cons,List.all_nil,Bool.and_true,aZ7];constructor
 ·rintro ⟨⟨a,b⟩,c,d⟩;exact⟨⟨a,c⟩,b,d⟩
 rintro ⟨⟨a,c⟩,b,d⟩;exact⟨⟨a,b⟩,c,d⟩
theorem GZ{α:Type}{l:List α}(h:l.Nodup)(k:Nat):(l.take k).Nodup:=h.sublist (List.take_sublist k l)
theorem OM(fs:pO)(k:Nat)(h:yK (fs.take k)=false):yK fs=false:=by
 rw[<-Bool.not_eq_true]at h ⊢;intro hh;apply h;unfold yK at hh ⊢;rw[aZ7,qG]at hh ⊢;refine⟨?_,?_⟩
 ·rw[ay]at hh ⊢
  exact fun f hf=>hh.1 f (List.mem_of_mem_take hf)
 rw[FV];exact GZ hh.2 k
theorem Lf(a b c:List UInt8):decide (a<=b)=true->decide (b<=c)=true->decide (a<=c)=true:=by
 simp only[be8];exact List.le_trans
theorem Lb(a b:List UInt8):(decide (a<=b)||decide (b<=a))=true:=by
 simp only[Bool.or_eq_true,be8];exact List.le_total a b
theorem u_(zs:List (List UInt8))(h:zs.Nodup):∀j,j<zs.length->Lib.keeps zs.toArray j=true:=by
 intro j hj
 by_cases e:j=0
 ·simp[Lib.keeps,e]
 apply Lib.keeps_pos;have h1:j-1<zs.length:=by omega
 simp only[List.getElem!_toArray];rw[bj4 zs j hj,bj4 zs (j-1) h1];intro hh;have q:=(be4.1 h) (j-1) j h1 hj (by omega);exact q hh.symm
theorem Ab{zs:List (List UInt8)}{j:Nat}(hj:j<zs.length)(hk:Lib.keeps zs.toArray j=false):(Lib.compact zs).length<zs.length:=by
 unfold Lib.compact Lib.compactUpTo;rw[bd0];have h1:((List.range zs.length).filter (Lib.keeps zs.toArray)).length<(List.range zs.length).length:=by
  rw[List.length_filter_lt_length_iff_exists];exact⟨j,by simpa using hj,by rw[hk];simp⟩
 simpa using h1
theorem DK{zs:List (List UInt8)}(hs:zs.Pairwise (fun a b=>a<=b))(hk:∀j,j<zs.length->Lib.keeps zs.toArray j=true):zs.Nodup:=by
 rw[List.Nodup,be4];intro i j hi hj hij e;have h1:i+1<zs.length:=by omega
 have hkk:=hk (i+1) h1;have hle1:zs[i]<=zs[i+1]:=(be4.1 hs) i (i+1) hi h1 (by omega);have hle2:zs[i+1]<=zs[j]:=by
  by_cases e2:i+1=j
  ·subst e2;exact List.le_refl _
  exact(be4.1 hs) (i+1) j h1 hj (by omega)
 rw[<-e]at hle2;have heq:zs[i+1]=zs[i]:=List.le_antisymm hle2 hle1;simp only[Lib.keeps,be8]at hkk
 rcases hkk with h0|h0
 ·omega
 apply h0;simp only[List.getElem!_toArray,Nat.add_sub_cancel];rw[bj4 zs (i+1) h1,bj4 zs i hi];exact heq
def XR(l:List (List UInt8)):List (List UInt8):=l.mergeSort fun x y=>decide (x<=y)
theorem Py(l:List (List UInt8)):(XR l).length=l.length:=(List.mergeSort_perm l _).length_eq
theorem OH(l:List (List UInt8)):decide ((Lib.compact (XR l)).length=l.length)=uT l:=by
 have hp:(XR l).Perm l:=List.mergeSort_perm l _;have hs:(XR l).Pairwise (fun a b=>a<=b):=by
  have:=List.pairwise_mergeSort Lf Lb l;exact this.imp (fun h=>by simpa using h)
 have hl:(XR l).length=l.length:=hp.length_eq;rw[Bool.eq_iff_iff,be8,qG];constructor
 ·intro h
  apply hp.nodup_iff.1;apply DK hs;intro j hj
  cases hk:Lib.keeps (XR l).toArray j with
  |true=>rfl
  |false=>have:=Ab hj hk;omega
 intro h;rw[Lib.compact_all _ (u_ _ (hp.nodup_iff.2 h)),hl]
def cut:List UInt8->Option (List UInt8×List UInt8)
 |[]=>none
 |c::r=>if c=0 then some ([],r)else match cut r with
  |none=>none
  |some (a,b)=>some (c::a,b)
theorem FE{l a b:List UInt8}(h:cut l=some (a,b)):l=a++0::b/\(0:UInt8) ∉ a:=by
 induction l generalizing a b with
 |nil=>simp[cut]at h
 |cons c r ih=>
  rw[cut]at h
  by_cases e:c=0
  ·rw[aU0 e]at h
   simp at h;obtain⟨rfl,rfl⟩:=h;simp[e]
  rw[aT4 e]at h
  cases hc:cut r with
  |none=>rw[hc]at h;simp at h
  |some p=>
   obtain⟨a',b'⟩:=p;rw[hc]at h;simp at h;obtain⟨rfl,rfl⟩:=h;obtain⟨h1,h2⟩:=ih hc;refine⟨by rw[h1];simp,?_⟩;simp only[fM,not_or];exact⟨fun h=>e h.symm,h2⟩
theorem Uc(a b:List UInt8)(h:(0:UInt8) ∉ a):cut (a++0::b)=some (a,b):=by
 induction a with
 |nil=>simp[cut]
 |cons c r ih=>
  simp only[fM,not_or]at h;rw[ba4,cut,aT4 (fun e=>h.1 e.symm),ih h.2]
theorem uA{l a b:List UInt8}(h:cut l=some (a,b)):l.length=a.length+1+b.length:=by
 obtain⟨h1,_⟩:=FE h;rw[h1];simp;omega
def kV(l:List UInt8):Option pO:=
 if l=[]then some []else
 match h:cut l with
 |none=>none
 |some (n,r)=>if iM n then
   (match h2:cut r with
   |none=>none
   |some (v,r2)=>if iM v then(match kV r2 with
     |none=>none
     |some fs=>some ((pg n,v)::fs))else none)
  else none
termination_by l.length
decreasing_by
 have h1:=uA h
 have h2:=uA h2
 omega
theorem FX:kV []=some []:=by rw[kV,aU0 rfl]
theorem Bi{l:List UInt8}(h0:l≠ [])(h:cut l=none):kV l=none:=by
 rw[kV,aT4 h0]
 split
 ·rfl
 rename_i n r h';rw[h]at h';simp at h'
theorem nR{l n r:List UInt8}(h0:l≠ [])(h:cut l=some (n,r)):kV l=if iM n then(match cut r with
  |none=>none
  |some (v,r2)=>if iM v then(match kV r2 with
   |none=>none
   |some fs=>some ((pg n,v)::fs))else none)else none:=by
 rw[kV,aT4 h0]
 split
 ·rename_i h';rw[h]at h';simp at h'
 rename_i n' r' h'
 rw[h]at h';simp at h';obtain⟨rfl,rfl⟩:=h'
 by_cases hn:iM n=true
 ·rw[aU0 hn,aU0 hn]
  split
  ·rename_i h2;rw[h2]
  rename_i h2;rw[h2]
 rw[aT4 hn,aT4 hn]
theorem Ph{l n r:List UInt8}(h0:l≠ [])(h:cut l=some (n,r))(hn:iM n=false):kV l=none:=by
 rw[nR h0 h,hn];rfl
theorem Bz{l n r:List UInt8}(h0:l≠ [])(h:cut l=some (n,r))(h2:cut r=none):kV l=none:=by
 rw[nR h0 h,h2];split<;>rfl
theorem Pz{l n r v r2:List UInt8}(h0:l≠ [])(h:cut l=some (n,r))(h2:cut r=some (v,r2))(hv:iM v=false):kV l=none:=by
 rw[nR h0 h,h2];simp only[hv]
 split<;>rfl
theorem Pe{l n r v r2:List UInt8}(h0:l≠ [])(h:cut l=some (n,r))(h2:cut r=some (v,r2))(hn:iM n=true)(hv:iM v=true):kV l=match kV r2 with
  |none=>none
  |some fs=>some ((pg n,v)::fs):=by
 rw[nR h0 h,h2,aU0 hn];simp only[hv,be9]
structure RH where
 op:Nat
 block:Nat
 text:List UInt8
 data:List UInt8
 fs:pO
def RH.zero:RH:=⟨0,0,[],[],[]⟩
def Qy:List UInt8:=[111,99,116,101,116]
def TU(n:Nat):List UInt8:=[UInt8.ofNat (n/256),UInt8.ofNat n]
def RS(m:RH):Bool:=
 if m.op=1 then iM m.text && yK m.fs else if m.op=6 then yK m.fs else if m.op=5 then !m.text.contains 0 else(m.op==3||m.op==4)
def Mq(m:RH):List UInt8:=
 TU m.op++(if m.op=1 then m.text++ [0]++(Qy++ [0])++nW m.fs else if m.op=6 then nW m.fs else if m.op=3 then TU m.block++m.data else if m.op=5 then TU m.block++(m.text++ [0])else TU m.block)
def UU(m:RH):Nat:=
 if RS m=false then 2 else if m.op=3/\1024<m.data.length then 7 else if 1472<(Mq m).length then 7 else 0
def U7(m:RH):List UInt8:=if UU m=0 then Mq m else []
def Qr(l:List UInt8):Option pO:=match kV l with
 |none=>none
 |some fs=>if uT (qa fs)then some fs else none
def U5(l:List UInt8):Nat×RH:=
 if l.length<2 then(1,.zero)else
 let op:=(l.getD 0 0).toNat*256+(l.getD 1 0).toNat
 let r:=l.drop 2
 if op=1 then
  match cut r with
  |none=>(2,.zero)
  |some (n,r1)=>if iM n=false then(2,.zero)else match cut r1 with
   |none=>(2,.zero)
   |some (m,r2)=>if pg m≠Qy then(2,.zero)else match Qr r2 with
    |none=>(2,.zero)
    |some fs=>(0,⟨op,0,n,[],fs⟩)
 else if op=6 then match Qr r with
  |none=>(2,.zero)
  |some fs=>(0,⟨op,0,[],[],fs⟩)
 else if op=3∨op=4∨op=5 then
  if r.length<2 then(1,.zero)else
  let bl:=(r.getD 0 0).toNat*256+(r.getD 1 0).toNat
  let q:=r.drop 2
  if op=3 then(if 1024<q.length then(7,.zero)else(0,⟨op,bl,[],q,[]⟩))
  else if op=4 then(if q=[]then(0,⟨op,bl,[],[],[]⟩)else(2,.zero))
  else match cut q with
   |none=>(2,.zero)
   |some (t,q2)=>if q2=[]then(0,⟨op,bl,t,[],[]⟩)else(2,.zero)
 else(2,.zero)
end Tf
namespace Rd
open Bs
theorem II(w:fV)(c:Array Value)(t:TypeId)(cs:Array Value):(w.alloc (.cells c t)).setRow w.heap.size cs=w.alloc (.cells cs t):=by
 have hh:((w.heap.push (.cells c t)).modify w.heap.size fun| .cells _ elem frozen=>.cells cs elem frozen|o=>o)=w.heap.push (.cells cs t):=by
  apply Array.ext_getElem?;intro i;rw[au,Array.getElem?_push,Array.getElem?_push]
  by_cases h:w.heap.size=i
  ·subst h;simp
  have h':i≠w.heap.size:=fun e=>h e.symm;simp[h,h']
 show({heap:=(w.heap.push (.cells c t)).modify w.heap.size fun| .cells _ elem frozen=>.cells cs elem frozen|o=>o,tape:=w.tape,drawn:=w.drawn,os:=w.os,output:=w.output}:fV)={heap:=w.heap.push (.cells cs t),tape:=w.tape,drawn:=w.drawn,os:=w.os,output:=w.output};rw[hh]
theorem Sm:(prog.info? 5).map (·.size)=some 1:=by kernel_rfl
theorem tZ(B:Nat)(a b c d e f:UInt8)(l:List UInt8)(w:fV)(h:iL w B (a::b::c::d::e::f::l))(hs:(a::b::c::d::e::f::l).length<=maxLen):
  f_ Vh 96 #[p_ B] w fun ee w'=>ee=.returned (.agg (rT a.toNat b.toNat c.toNat d.toNat e.toNat f.toNat))/\iL w' B l/\w.grownBy w' (some B):=by
 have HN:=M0 (fun u hu=>pu B (a::b::c::d::e::f::l) 6 u hu (by simp) hs);have HH:=M0 h;have hB:=h.lt;obtain⟨u,hu⟩:=ex_ ((w.setCell (a_ B 0) (.string ⟨l.toArray⟩)).alloc (.cells zT_ 30));have huz:u.heap.size=w.heap.size+1:=by rw[hu];simp[World.setCell]
 have hcp:=Lib.run_copy_row_string (P:=Vh) (u.alloc (.cells zT_ 30)).drew 73 9 3 5 u.heap.size 0 6 6 ⟨#[a,b,c,d,e,f]⟩ zT_ 30 aW0 Sm (aS6 u _) (aS5 6) (aS5 6);have e1:(u.alloc (.cells zT_ 30)).drew.setRow u.heap.size ((zT_:Array Value).toList.take 0++Lib.byteCells (⟨#[a,b,c,d,e,f]⟩:ByteArray).data.toList++(zT_:Array Value).toList.drop (0+(⟨#[a,b,c,d,e,f]⟩:ByteArray).size)).toArray=(u.alloc (.cells (rT a.toNat b.toNat c.toNat d.toNat e.toNat f.toNat) 30)).drew:=by
  show((u.alloc (.cells zT_ 30)).setRow u.heap.size _).drew=_;rw[II];rfl
 rw[e1,huz,hu]at hcp;clear h hs e1 huz hu u;go_enter func96,ntmps96;go_wp2_with fail;go_region_held3 (fun _=>True) (trivial) (first|(go_at_call 147;refine(HN _ ((HH.alloc _).alloc _).drew).mono ?_;rintro ee u ⟨rfl,hu⟩))
 go_wp2;refine aU6 (v:=.agg (rT a.toNat b.toNat c.toNat d.toNat e.toNat f.toNat)) (by simp[results,results96,go_sem]) rfl ⟨rfl,?_,?_⟩
 ·exact(((HH.set l).alloc _).alloc _).drew
 exact Aq (gV (gV (mH _) _) _)
theorem JG(B:Nat)(l:List UInt8)(w:fV)(h:iL w B l)(hn:l.length<6):
  f_ Vh 96 #[p_ B] w fun ee w'=>ee=.panicked (iH 1)/\w.grownBy w' (some B):=by
 have HN:=M0 (fun u hu=>vP B l 6 u hu (by omega));have HH:=M0 h;clear h;go_enter func96,ntmps96;go_wp2_with fail;refine wp_region_any (by kernel_rfl) ?_;change wpAny _ _ _ _ _ _ _ (World.drew _);refine tk_ (i:=0) (v:=.slice (some (a_ (w.heap.size+1) 0)) 6 6) rfl (by kernel_rfl) (fun _ _ _ h=>h) (aT2 ⟨by rfl,?_⟩) ?_
 ·intro u;go_simp
 refine tk_ (i:=1) (v:=(p_ B)) rfl (by kernel_rfl) (fun _ _ _ h=>h) (aT2 ⟨by rfl,?_⟩) ?_
 ·intro u;go_simp
 refine wpAny_ready (rs:=[2]) (by kernel_rfl) (by simp) ?_;refine AllReady.cons rfl (fun K hK=> ?_) AllReady.nil;go_simp
 refine(HN _ ((HH.alloc _).alloc _).drew).mono ?_;rintro ee u ⟨rfl,rfl⟩;exact⟨rfl,rfl,Aq (gV (gV (il _ _) _) _)⟩
end Rd
namespace gP
open Bs Rd
theorem BC(B:Nat)(l:List UInt8)(w:fV)(h:iL w B l)(hn:l.length<2):
  f_ Vh 97 #[p_ B,.func (.func 98) #[] #[],.func (.func 99) #[] #[],Vb Vg 3] w fun e w'=>e=.panicked (iH 1)/\w.grownBy w' (some B):=by
 have HN:=M0 (DV B l w h hn);clear h;go_enter func97,ntmps97;go_wp2_with fail;refine HN.mono ?_;rintro e w1 ⟨rfl,rfl⟩;exact⟨rfl,rfl,il _ _⟩
theorem I4(B:Nat)(a b:UInt8)(l:List UInt8)(w:fV)(h:iL w B (a::b::l))(hs:(a::b::l).length<=maxLen)(ht:og.X6 (256*(a.toNat:Int)+(b.toNat:Int))=true):
  f_ Vh 97 #[p_ B,.func (.func 98) #[] #[],.func (.func 99) #[] #[],Vb Vg 3] w fun e w'=>e=.returned (Vb Ve (256*(a.toNat:Int)+(b.toNat:Int)))/\iL w' B l/\w.grownBy w' (some B):=by
 have HN:=M0 (jo B a b l w h hs);obtain⟨x,hx⟩:=ex_ (256*(a.toNat:Int)+(b.toNat:Int));rw[<-hx]at HN ht ⊢;have HT:=M0 ht;have HI:=M0 (fun u=>og.qN x u);clear h hx hs ht;go_enter func97,ntmps97;go_wp2_with fail;refine on_ HN ?_;rintro w1 ⟨h1,g1⟩;have H1:=M0 h1;have G1:=M0 g1;clear h1 g1;go_wp2_with fail;refine(HI _).mono ?_;rintro e w2 ⟨rfl,rfl⟩;rw[gB HT];go_wp2_with fail;refine(oo _ _).mono ?_;rintro _ w3 ⟨rfl,rfl⟩;go_wp2;go_ret;exact⟨rfl,H1,G1⟩
theorem an8(B:Nat)(a b:UInt8)(l:List UInt8)(w:fV)(h:iL w B (a::b::l))(hs:(a::b::l).length<=maxLen)(ht:og.X6 (256*(a.toNat:Int)+(b.toNat:Int))=false):
  f_ Vh 97 #[p_ B,.func (.func 98) #[] #[],.func (.func 99) #[] #[],Vb Vg 3] w fun e w'=>e=.panicked (iH 3)/\w.grownBy w' (some B):=by
 have HN:=M0 (jo B a b l w h hs);obtain⟨x,hx⟩:=ex_ (256*(a.toNat:Int)+(b.toNat:Int));rw[<-hx]at HN ht;have HT:=M0 ht;have HI:=M0 (fun u=>og.qN x u);clear h hx hs ht;go_enter func97,ntmps97;go_wp2_with fail;refine on_ HN ?_;rintro w1 ⟨h1,g1⟩;have G1:=M0 g1;clear h1 g1;go_wp2_with fail;refine(HI _).mono ?_;rintro e w2 ⟨rfl,rfl⟩;rw[gB HT];go_wp2_with fail;refine(om _ _).mono ?_;rintro _ w3 ⟨rfl,rfl⟩;exact⟨rfl,rfl,G1⟩
theorem IL(B:Nat)(l:List UInt8)(w:fV)(h:iL w B l)(hs:l.length<=140737488355328)(ht:og.ko ⟨l.toArray⟩=true):
  f_ Vh 100 #[p_ B,.func (.func 101) #[] #[],.func (.func 102) #[] #[],Vb Vg 7] w fun e w'=>e=.returned (.string ⟨l.toArray⟩)/\iL w' B []/\w.grownBy w' (some B):=by
 have HN:=M0 (vO B l w h hs);have HT:=M0 ht;have HI:=M0 (fun u=>og.qK ⟨l.toArray⟩ u);clear h hs ht;go_enter ax,bh9;go_wp2_with fail;refine on_ HN ?_;rintro w1 ⟨h1,g1⟩;have H1:=M0 h1;have G1:=M0 g1;clear h1 g1;go_wp2_with fail;refine(HI _).mono ?_;rintro e w2 ⟨rfl,rfl⟩;rw[gB HT];go_wp2_with fail;refine(oo _ _).mono ?_;rintro _ w3 ⟨rfl,rfl⟩;go_wp2;go_ret;exact⟨rfl,H1,G1⟩
theorem Gz(B:Nat)(l:List UInt8)(w:fV)(h:iL w B l)(hs:l.length<=140737488355328)(ht:og.ko ⟨l.toArray⟩=false):
  f_ Vh 100 #[p_ B,.func (.func 101) #[] #[],.func (.func 102) #[] #[],Vb Vg 7] w fun e w'=>e=.panicked (iH 7)/\w.grownBy w' (some B):=by
 have HN:=M0 (vO B l w h hs);have HT:=M0 ht;have HI:=M0 (fun u=>og.qK ⟨l.toArray⟩ u);clear h hs ht;go_enter ax,bh9;go_wp2_with fail;refine on_ HN ?_;rintro w1 ⟨h1,g1⟩;have G1:=M0 g1;clear h1 g1;go_wp2_with fail;refine(HI _).mono ?_;rintro e w2 ⟨rfl,rfl⟩;rw[gB HT];go_wp2_with fail;refine(om _ _).mono ?_;rintro _ w3 ⟨rfl,rfl⟩;exact⟨rfl,rfl,G1⟩
theorem other{w:fV}{B:Nat}{l:List UInt8}(h:iL w B l){a:Addr}(ha:B≠a.block)(v:Value):iL (w.setCell a v) B l:=by
 unfold iL at*;rw[aS7 _ _ _ _ ha];exact h
theorem gN{a w:fV}{r:Option Nat}(h:a.grownBy w r){p:Addr}(hp:a.heap.size<=p.block)(v:Value):a.grownBy (w.setCell p v) r:=
 ⟨h.os,h.tape,h.output,by simpa[World.setCell]using h.size,fun k hk hr=>by rw[aS7 _ _ _ _ (by omega)];exact h.block k hk hr⟩
theorem gD{w:fV}{g j:Nat}{c:Array Value}{t:TypeId}{v:Value}(h:w.heap[g]?=some (.cells c t (0,0)))(hj:c[j]?=some v):w.cell? (a_ g j)=some v:=by
 rw[aS3 w g j c t (0,0) h];exact hj
theorem gM{w:fV}{g:Nat}{c:Array Value}{t:TypeId}(h:w.heap[g]?=some (.cells c t (0,0))):∀j,w.frozen? (a_ g j)=false:=fun j=>by simp[World.frozen?,h]
theorem gI{w:fV}{g:Nat}{c:Array Value}{t:TypeId}(h:w.heap[g]?=some (.cells c t (0,0)))(j:Nat)(v:Value):(w.setCell (a_ g j) v).heap[g]?=some (.cells (c.setIfInBounds j v) t (0,0)):=by
 have hlt:=aT3 h;have h':w.heap[g]=.cells c t (0,0):=by simpa[aZ8 hlt]using h
 show(w.heap.modify g _)[g]?=_;rw[aZ8 (by simpa using hlt),Array.getElem_modify_self,h'];rfl
theorem sixth(l:List UInt8)(h:6<=l.length):∃a b c d e f r,l=a::b::c::d::e::f::r:=by
 match l,h with
 |a::b::c::d::e::f::r,_=>exact⟨a,b,c,d,e,f,r,rfl⟩
theorem second(l:List UInt8)(h:2<=l.length):∃a b r,l=a::b::r:=by
 match l,h with
 |a::b::r,_=>exact⟨a,b,r,rfl⟩
end gP
namespace Rd
open Bs
theorem aD{b g:Nat}{a w:fV}(h:gm b a w)(hg:b<=g)(cs:Array Value):gm b a (w.setRow g cs):=
 ⟨h.os,h.tape,h.output,by rw[size_setRow];exact h.size,fun k hk=>(af w g k cs (by omega)).trans (h.block k hk)⟩
theorem aC{fn:Func}{p q:Tmp}{ty:TypeId}(h:fn.results=#[.cell p ty,.tmp q]){a:Act}{g:Nat}{w0 w w1:fV}{cs zs:Array Value}{k:Value}{R:Ending->fV->Prop}
  (hp:a.tmps.getD p undef=(p_ g)) (hq:a.tmps.getD q undef=k) (hd:a.defers=[]) (hr:w1.heap[g]?=some (.cells zs ty (0,0)))
  (hl:∀u:fV,u.heap[g]?=some (.cells cs ty (0,0))->(loadVar ty (a_ g 0)).run Vh u=.ok (.agg cs) u)
  (hR:gm w0.heap.size w0 (w1.setRow g cs)->R (.returned (.tuple #[.agg cs,k])) (w1.setRow g cs)) (h0:gm w0.heap.size w0 w) (hb:gm w.heap.size w w1) (hg:w0.heap.size<=g):bodyPost Vh fn R .ret a (w1.setRow g cs):=by
 have hp':a.tmps[p]?.getD undef=(p_ g):=by simpa using hp
 have hq':a.tmps[q]?.getD undef=k:=by simpa using hq
 have hl':=hl _ (aX9 _ _ _ cs _ _ hr);exact aU6 (v:=.tuple #[.agg cs,k]) (by simp[results,h,hp',hq',asAddr,hl']) hd (hR (aD (h0.trans (hb.mono h0.size)) hg _))
theorem aL{fn:Func}{p q:Tmp}{ty:TypeId}(h:fn.results=#[.cell p ty,.cell q 26]){tmps:Array Value}{g:Nat}{u:fV}{cs:Array Value}{v:Value}{k:Int}
  (hp:tmps.getD p undef=(p_ g)) (hq:tmps.getD q undef=(p_ (g+1))) (hr:u.heap[g]?=some (.cells cs ty (0,0))) (he:u.heap[g+1]?=some (.cells #[v] 26 (0,0)))
  (hl:∀u:fV,u.heap[g]?=some (.cells cs ty (0,0))->(loadVar ty (a_ g 0)).run Vh u=.ok (.agg cs) u):
  (results fn tmps).run Vh (u.setCell (a_ (g+1) 0) (Vb Vg k))=.ok (.tuple #[.agg cs,Vb Vg k]) (u.setCell (a_ (g+1) 0) (Vb Vg k)):=by
 have hp':tmps[p]?.getD undef=(p_ g):=by simpa using hp
 have hq':tmps[q]?.getD undef=(p_ (g+1)):=by simpa using hq
 have h1:=hl _ ((aS7 _ (a_ (g+1) 0) (Vb Vg k) _ (by simp)).trans hr);have hc:=aT8 (bb8 (v:=v) (u:=Vb Vg k) he);have h2:(loadVar 26 (a_ (g+1) 0)).run Vh (u.setCell (a_ (g+1) 0) (Vb Vg k))=.ok (Vb Vg k) (u.setCell (a_ (g+1) 0) (Vb Vg k)):=by simp[go_sem,hc]
 simp[results,h,hp',hq',asAddr,h1,h2]
theorem aQ{fn:Func}{p q:Tmp}{ty:TypeId}(h:fn.results=#[.cell p ty,.cell q 26]){tmps:Array Value}{g:Nat}{w1:fV}{cs zs:Array Value}{v:Value}
  (hp:tmps.getD p undef=(p_ g)) (hq:tmps.getD q undef=(p_ (g+1))) (hr:w1.heap[g]?=some (.cells zs ty (0,0))) (he:w1.heap[g+1]?=some (.cells #[v] 26 (0,0)))
  (hl:∀u:fV,u.heap[g]?=some (.cells cs ty (0,0))->(loadVar ty (a_ g 0)).run Vh u=.ok (.agg cs) u):
  (results fn tmps).run Vh ((w1.setRow g cs).setCell (a_ (g+1) 0) (Vb Vg 0))=.ok (.tuple #[.agg cs,Vb Vg 0]) ((w1.setRow g cs).setCell (a_ (g+1) 0) (Vb Vg 0)):=
 aL h hp hq (aX9 _ _ _ cs _ _ hr) ((af _ _ _ _ (by omega)).trans he) hl
theorem Jz{w:fV}{b b' g e z:Nat}{v:Value}{n:Nat}{xs:List Value}(h:w.ownsRow b e z v n xs)(hg:g<b)(hb:b'<=b)(cs:Array Value):(w.setRow g cs).ownsRow b' e z v n xs:=
 ⟨h.1,h.2.imp id (fun⟨k,cap,cur,e1,e2,e3,r⟩=>⟨k,cap,cur,e1,aT9 hb e2,(af _ _ _ _ (by omega)).trans e3,r⟩)⟩
structure VS (T:TypeId) (z:Array Value) (w:fV) (B V:Nat) (u:fV) (l:List UInt8) (cs:Array Value):Prop where
 lo:B<w.heap.size
 lv:w.heap.size<V
 D8:iL u B l
 grown:w.grownBy u (some B)
 res:u.heap[w.heap.size]?=some (.cells z T (0,0))
 var:u.heap[V]?=some (.cells cs T (0,0))
variable{T:TypeId} {z cs cs':Array Value} {w u u2:fV} {B V:Nat} {l l2:List UInt8}
theorem VS.start(T:TypeId)(z:Array Value)(h:iL w B l):VS T z w B (w.heap.size+1) ((w.alloc (.cells z T)).alloc (.cells z T)) l z:=
 ⟨h.lt,Nat.lt_succ_self _,(h.alloc _).alloc _,gV (gV (il _ _) _) _,by rw[aT1 _ _ _ (by simp)];exact aS6 w _,by
  have q:=aS6 (w.alloc (.cells z T)) (.cells z T);rw[show(w.alloc (.cells z T)).heap.size=w.heap.size+1 by simp]at q;exact q⟩
theorem VS.make(h0:B<w.heap.size)(h:iL u B l)(hg:w.grownBy u (some B))(hr:u.heap[w.heap.size]?=some (.cells z T (0,0))):VS T z w B u.heap.size (u.alloc (.cells z T)) l z:=
 ⟨h0,aT3 hr,h.alloc _,gV hg _,by rw[aT1 _ _ _ (aT3 hr)];exact hr,aS6 u _⟩
theorem VS.next(h:VS T z w B V u l cs)(hr:iL u2 B l2)(hg:u.grownBy u2 (some B)):VS T z w B V u2 l2 cs:=
 ⟨h.lo,h.lv,hr,gH h.grown hg,(hg.block _ (aT3 h.res) (by have:=h.lo;have:=h.lv;simp;omega)).trans h.res,(hg.block _ (aT3 h.var) (by have:=h.lo;have:=h.lv;simp;omega)).trans h.var⟩
theorem VS.set(h:VS T z w B V u l cs)(j:Nat)(v:Value):VS T z w B V (u.setCell (a_ V j) v) l (cs.setIfInBounds j v):=
 ⟨h.lo,h.lv,gP.other h.D8 (by have:=h.lo;have:=h.lv;simp;omega) _,gP.gN h.grown (ba1 h.lv) _,by rw[aS7 _ _ _ _ (by have:=h.lv;simp;omega)];exact h.res,gP.gI h.var j v⟩
def N8(u:fV)(b:Nat):List (Nat×Value)->fV
 |[]=>u
 |p::r=>N8 (u.setCell (a_ b p.1) p.2) b r
def SH(c:Array Value):List (Nat×Value)->Array Value
 |[]=>c
 |p::r=>SH (c.setIfInBounds p.1 p.2) r
theorem VS.sets(h:VS T z w B V u l cs)(ps:List (Nat×Value))(e:SH cs ps=cs'):VS T z w B V (N8 u V ps) l cs':=by
 induction ps generalizing u cs with
 |nil=>exact e▸h
 |cons p r ih=>exact ih (h.set p.1 p.2) e
theorem VS.free(h:VS T z w B V u l cs):(∀j,u.frozen? (a_ V j)=false)/\∀j,u.frozen? (a_ w.heap.size j)=false:=⟨gP.gM h.var,gP.gM h.res⟩
theorem VS.done(h:VS T z w B V u l cs)(ps:List (Nat×Value)):w.grownBy (N8 u w.heap.size ps) (some B):=by
 have:∀(ps:List (Nat×Value)) (u:fV),w.grownBy u (some B)->w.grownBy (N8 u w.heap.size ps) (some B):=fun ps=>by
  induction ps with
  |nil=>exact fun u hu=>hu
  |cons p r ih=>exact fun u hu=>ih _ (gP.gN hu (aS5 _) _)
 exact this ps u h.grown
theorem VS.below(h:VS T z w B V u l cs)(hb:gm u.heap.size u u2):VS T z w B V u2 l cs:=
 ⟨h.lo,h.lv,(hb.block _ (aT3 h.D8)).trans h.D8,jh h.grown hb,(hb.block _ (aT3 h.res)).trans h.res,(hb.block _ (aT3 h.var)).trans h.var⟩
end Rd
namespace gP
open Bs Rd
def FC(l:List UInt8)(B:Nat)(w:fV)(ee:Ending)(w':fV):Prop:=w.grownBy w' (some B)/\match l with
 |a::b::c::d::e::f::a'::b'::c'::d'::e'::f'::t::t'::r=>if og.X6 (256*(t.toNat:Int)+(t'.toNat:Int))=false then ee=.panicked (iH 3)else if og.ko ⟨r.toArray⟩=false then ee=.panicked (iH 7)else ee=.returned (.agg (rM a.toNat b.toNat c.toNat d.toNat e.toNat f.toNat a'.toNat b'.toNat c'.toNat d'.toNat e'.toNat f'.toNat (256*(t.toNat:Int)+(t'.toNat:Int)) ⟨r.toArray⟩))
 |_=>ee=.panicked (iH 1)
theorem zL{u:fV}{g:Nat}{t:TypeId}{b0 b1 b2 b3 b4 b5 b6 b7 b8 b9 b10 b11 b12 b13:Value}(h:u.heap[g]?=some (.cells #[b0,b1,b2,b3,b4,b5,b6,b7,b8,b9,b10,b11,b12,b13] t (0,0))):
  u.cell? (a_ g 0)=some b0/\u.cell? (a_ g 1)=some b1/\u.cell? (a_ g 2)=some b2/\u.cell? (a_ g 3)=some b3/\u.cell? (a_ g 4)=some b4/\u.cell? (a_ g 5)=some b5/\u.cell? (a_ g 6)=some b6/\u.cell? (a_ g 7)=some b7/\u.cell? (a_ g 8)=some b8/\u.cell? (a_ g 9)=some b9/\u.cell? (a_ g 10)=some b10/\u.cell? (a_ g 11)=some b11/\u.cell? (a_ g 12)=some b12/\u.cell? (a_ g 13)=some b13:=by
 have q:=fun j=>aS3 u g j _ _ _ h;exact⟨q 0,q 1,q 2,q 3,q 4,q 5,q 6,q 7,q 8,q 9,q 10,q 11,q 12,q 13⟩
theorem xu{l:List UInt8}{B:Nat}{w w':fV}(hg:w.grownBy w' (some B))(h:l.length<14):FC l B w (.panicked (iH 1)) w':=by
 refine⟨hg,?_⟩
 split
 ·simp only[aT0]at h;omega
 rfl
theorem NC{a b c d e f a' b' c' d' e' f' t t':UInt8}{r:List UInt8}{B:Nat}{w w':fV}(hg:w.grownBy w' (some B))(ht:og.X6 (256*(t.toNat:Int)+(t'.toNat:Int))=false):FC (a::b::c::d::e::f::a'::b'::c'::d'::e'::f'::t::t'::r) B w (.panicked (iH 3)) w':=by
 refine⟨hg,?_⟩;show ite _ _ _;rw[aU0 ht]
theorem Em{a b c d e f a' b' c' d' e' f' t t':UInt8}{r:List UInt8}{B:Nat}{w w':fV}{ee:Ending}(hg:w.grownBy w' (some B))(ht:og.X6 (256*(t.toNat:Int)+(t'.toNat:Int))=true)(he:if og.ko ⟨r.toArray⟩=false then ee=.panicked (iH 7)else ee=.returned (.agg (rM a.toNat b.toNat c.toNat d.toNat e.toNat f.toNat a'.toNat b'.toNat c'.toNat d'.toNat e'.toNat f'.toNat (256*(t.toNat:Int)+(t'.toNat:Int)) ⟨r.toArray⟩))):FC (a::b::c::d::e::f::a'::b'::c'::d'::e'::f'::t::t'::r) B w ee w':=by
 refine⟨hg,?_⟩;show ite _ _ _;rw[aT4 (by rw[ht];decide)];exact he
theorem Cr(B:Nat)(l:List UInt8)(w:fV)(h:iL w B l)(hs:l.length<=140737488355014):
  f_ Vh 57 #[p_ B] w fun ee w'=>FC l B w ee w':=by
 have S0:=M0 (VS.start 55 (rM 0 0 0 0 0 0 0 0 0 0 0 0 0 ⟨#[]⟩) h);clear h;go_enter func57,ntmps57;go_wp2_with fail
 by_cases h6:l.length<6
 ·refine on_ (JG _ _ _ S0.D8 h6) fun v g=>?_
  exact⟨rfl,xu (gH S0.grown g) (by omega)⟩
 obtain⟨a,b,c,d,e,f,l,rfl⟩:=sixth l (by omega);refine on_ (tZ _ _ _ _ _ _ _ _ _ S0.D8 (by simp only[aT0,maxLen]at*;omega)) ?_;rintro w1 ⟨h1,g1⟩;have S1:=M0 (S0.next h1 g1);have S2:=M0 (S1.sets [(0,Vb Vd a.toNat),(1,Vb Vd b.toNat),(2,Vb Vd c.toNat),(3,Vb Vd d.toNat),(4,Vb Vd e.toNat),(5,Vb Vd f.toNat)] (cs':=(rM a.toNat b.toNat c.toNat d.toNat e.toNat f.toNat 0 0 0 0 0 0 0 ⟨#[]⟩)) rfl);obtain⟨x0,x1,x2,x3,x4,x5,x6,x7,x8,x9,x10,x11,x12,x13⟩:=zL S1.var;have f1:=S1.free.1;clear h1 g1 S0 S1 h6;go_wp2_with fail
 by_cases h6:l.length<6
 ·refine on_ (JG _ _ _ S2.D8 h6) fun v g=>?_
  exact⟨rfl,xu (gH S2.grown g) (by simp only[aT0];omega)⟩
 obtain⟨a',b',c',d',e',f',l,rfl⟩:=sixth l (by omega);refine on_ (tZ _ _ _ _ _ _ _ _ _ S2.D8 (by simp only[aT0,maxLen]at*;omega)) ?_;rintro w2 ⟨h1,g1⟩;clear x0 x1 x2 x3 x4 x5 x6 x7 x8 x9 x10 x11 x12 x13 f1 h6;have S3:=M0 (S2.next h1 g1);have S4:=M0 (S3.sets [(6,Vb Vd a'.toNat),(7,Vb Vd b'.toNat),(8,Vb Vd c'.toNat),(9,Vb Vd d'.toNat),(10,Vb Vd e'.toNat),(11,Vb Vd f'.toNat)] (cs':=(rM a.toNat b.toNat c.toNat d.toNat e.toNat f.toNat a'.toNat b'.toNat c'.toNat d'.toNat e'.toNat f'.toNat 0 ⟨#[]⟩)) rfl);obtain⟨x0,x1,x2,x3,x4,x5,x6,x7,x8,x9,x10,x11,x12,x13⟩:=zL S3.var;have f1:=S3.free.1;clear h1 g1 S2 S3;go_wp2_with fail
 by_cases h2:l.length<2
 ·refine on_ (BC _ _ _ S4.D8 h2) fun v g=>?_
  exact⟨rfl,xu (gH S4.grown g) (by simp only[aT0];omega)⟩
 obtain⟨t,t',r,rfl⟩:=second l (by omega)
 cases ht:og.X6 (256*(t.toNat:Int)+(t'.toNat:Int))with
 |false=>
  refine on_ (an8 _ _ _ _ _ S4.D8 (by simp only[aT0,maxLen]at*;omega) ht) fun v g=>?_;exact⟨rfl,NC (gH S4.grown g) ht⟩
 |true=>
  have HT:=M0 (I4 _ _ _ _ _ S4.D8 (by simp only[aT0,maxLen]at*;omega) ht);obtain⟨x,hx⟩:=ex_ ((256*(t.toNat:Int)+(t'.toNat:Int)));rw[<-hx]at HT;have HX:=M0 hx;have HTY:=M0 ht;clear hx ht h2;refine on_ HT ?_;rintro w3 ⟨h1,g1⟩;clear x0 x1 x2 x3 x4 x5 x6 x7 x8 x9 x10 x11 x12 x13 f1 HT;have S5:=M0 (S4.next h1 g1);have S6:=M0 (S5.sets [(12,Vb Ve x)] (cs':=(rM a.toNat b.toNat c.toNat d.toNat e.toNat f.toNat a'.toNat b'.toNat c'.toNat d'.toNat e'.toNat f'.toNat x ⟨#[]⟩)) rfl);obtain⟨x0,x1,x2,x3,x4,x5,x6,x7,x8,x9,x10,x11,x12,x13⟩:=zL S5.var;have f1:=S5.free.1;clear h1 g1 S4 S5;go_wp2_with fail
  cases hl:og.ko ⟨r.toArray⟩with
  |false=>
   refine on_ (Gz _ _ _ S6.D8 (by simp only[aT0]at hs;omega) hl) fun v g=>?_;exact⟨rfl,Em (gH S6.grown g) HTY (by rw[aU0 hl])⟩
  |true=>
   refine on_ (IL _ _ _ S6.D8 (by simp only[aT0]at hs;omega) hl) ?_;rintro w4 ⟨h1,g1⟩;have HLD:=M0 hl;clear x0 x1 x2 x3 x4 x5 x6 x7 x8 x9 x10 x11 x12 x13 f1 hl;have S7:=M0 (S6.next h1 g1);have HG:=M0 ((S7.set 13 (.string ⟨r.toArray⟩)).done [(0,Vb Vd a.toNat),(1,Vb Vd b.toNat),(2,Vb Vd c.toNat),(3,Vb Vd d.toNat),(4,Vb Vd e.toNat),(5,Vb Vd f.toNat),(6,Vb Vd a'.toNat),(7,Vb Vd b'.toNat),(8,Vb Vd c'.toNat),(9,Vb Vd d'.toNat),(10,Vb Vd e'.toNat),(11,Vb Vd f'.toNat),(12,Vb Ve x),(13,.string ⟨r.toArray⟩)]);obtain⟨x0,x1,x2,x3,x4,x5,x6,x7,x8,x9,x10,x11,x12,x13⟩:=zL S7.var;obtain⟨y0,y1,y2,y3,y4,y5,y6,y7,y8,y9,y10,y11,y12,y13⟩:=zL S7.res;obtain⟨f1,f2⟩:=S7.free;clear h1 g1 S6 S7;go_wp2;refine aU6 (v:=.agg (rM a.toNat b.toNat c.toNat d.toNat e.toNat f.toNat a'.toNat b'.toNat c'.toNat d'.toNat e'.toNat f'.toNat x ⟨r.toArray⟩)) (by simp[results,results57,go_sem,x0,x1,x2,x3,x4,x5,x6,x7,x8,x9,x10,x11,x12,x13,y0,y1,y2,y3,y4,y5,y6,y7,y8,y9,y10,y11,y12,y13,f1,f2]) rfl ?_;exact Em HG HTY (by rw[aT4 (by rw[gB HLD];decide),gB HX])
theorem FC.short{l:List UInt8}{B:Nat}{w w':fV}{ee:Ending}(h:FC l B w ee w')(hl:l.length<14):ee=.panicked (iH 1)/\w.grownBy w' (some B):=by
 refine⟨?_,h.1⟩;have q:=h.2
 split at q
 ·simp only[aT0]at hl;omega
 exact q
theorem FC.out{a b c d e f a' b' c' d' e' f' t t':UInt8}{r:List UInt8}{B:Nat}{w w':fV}{ee:Ending}(h:FC (a::b::c::d::e::f::a'::b'::c'::d'::e'::f'::t::t'::r) B w ee w'):if og.X6 (256*(t.toNat:Int)+(t'.toNat:Int))=false then ee=.panicked (iH 3)else if og.ko ⟨r.toArray⟩=false then ee=.panicked (iH 7)else ee=.returned (.agg (rM a.toNat b.toNat c.toNat d.toNat e.toNat f.toNat a'.toNat b'.toNat c'.toNat d'.toNat e'.toNat f'.toNat (256*(t.toNat:Int)+(t'.toNat:Int)) ⟨r.toArray⟩)):=h.2
theorem mJ(B:Nat)(l:List UInt8)(w:fV)(h:iL w B l)(hn:l.length<14):f_ Vh 57 #[p_ B] w fun ee w'=>ee=.panicked (iH 1)/\w.grownBy w' (some B):=
 (Cr B l w h (by omega)).mono fun _ _ q=>q.short hn
section
variable(B:Nat) (a b c d e f a' b' c' d' e' f' t t':UInt8) (l:List UInt8) (w:fV) (h:iL w B (a::b::c::d::e::f::a'::b'::c'::d'::e'::f'::t::t'::l)) (hs:l.length≤140737488355000)
include h hs
theorem zO{Q:Ending->Prop}(hQ:∀ee,(if og.X6 (256*(t.toNat:Int)+(t'.toNat:Int))=false then ee=.panicked (iH 3)else if og.ko ⟨l.toArray⟩=false then ee=.panicked (iH 7)else ee=.returned (.agg (rM a.toNat b.toNat c.toNat d.toNat e.toNat f.toNat a'.toNat b'.toNat c'.toNat d'.toNat e'.toNat f'.toNat (256*(t.toNat:Int)+(t'.toNat:Int)) ⟨l.toArray⟩)))->Q ee):f_ Vh 57 #[p_ B] w fun ee w'=>Q ee/\w.grownBy w' (some B):=
 (Cr B _ w h (by simp only[aT0];omega)).mono fun ee _ q=>⟨hQ ee q.out,q.1⟩
theorem uU(ht:og.X6 (256*(t.toNat:Int)+(t'.toNat:Int))=false):f_ Vh 57 #[p_ B] w fun ee w'=>ee=.panicked (iH 3)/\w.grownBy w' (some B):=zO B a b c d e f a' b' c' d' e' f' t t' l w h hs fun ee q=>by rwa [aU0 ht]at q
theorem vF(ht:og.X6 (256*(t.toNat:Int)+(t'.toNat:Int))=true)(hl:og.ko ⟨l.toArray⟩=false):f_ Vh 57 #[p_ B] w fun ee w'=>ee=.panicked (iH 7)/\w.grownBy w' (some B):=zO B a b c d e f a' b' c' d' e' f' t t' l w h hs fun ee q=>by rwa [aT4 (by rw[ht];decide),aU0 hl]at q
theorem Ad(ht:og.X6 (256*(t.toNat:Int)+(t'.toNat:Int))=true)(hl:og.ko ⟨l.toArray⟩=true):f_ Vh 57 #[p_ B] w fun ee w'=>ee=.returned (.agg (rM a.toNat b.toNat c.toNat d.toNat e.toNat f.toNat a'.toNat b'.toNat c'.toNat d'.toNat e'.toNat f'.toNat (256*(t.toNat:Int)+(t'.toNat:Int)) ⟨l.toArray⟩))/\w.grownBy w' (some B):=zO B a b c d e f a' b' c' d' e' f' t t' l w h hs fun ee q=>by rwa [aT4 (by rw[ht];decide),aT4 (by rw[hl];decide)]at q
end
end gP
namespace gP
open Bs Rd
theorem jE(k:Int)(w:fV):(Instr.typeAssert (.iface 26 (Vb Vg k)) 20 26 false).run Vh w=.ok (Vb Vg k) w:=by kernel_rfl
theorem jf{F:FuncId}{fn:Func}(hF:prog.funcs[F]?=some fn)(hb:fn.body=f95.body)(hn:fn.ntmps=7)(hr:fn.results=#[])(p:Addr)(x k:Int)(older:List PanicEntry)(w:fV)(hc:w.cell? p=some (Vb Vg x))(hz:w.frozen? p=false):
  CallsD Vh F #[.pointer (some p)] (.panicking ({v:=.iface 26 (Vb Vg k),recovered:=false}::older)) w fun e u' w'=>
   e=.returned (.tuple #[])/\u'=.panicking ({v:=.iface 26 (Vb Vg k),recovered:=true}::older)/\w'=w.setCell p (Vb Vg k):=by
 refine callsD_of_wpS hF (hb.trans rfl) fun c₀ cs hu=> ?_;apply wpS_seq;apply wpS_region;simp[wpOpsS,go_sem,recoverD,hu,hn,Exit.thenS];refine wpS_of_wp ?_;change Code.wp _ _ _ {tmps:=#[.pointer (some p),.iface 26 (Vb Vg k),.iface 26 (Vb Vg k),undef,undef,undef,undef],defers:=[]} _;have hta:=fun u=>jE k u;go_wp2;exact⟨rfl,_,rfl,.tuple #[],by simp[results,hr],rfl,rfl,rfl⟩
theorem kT{F:FuncId}{fn:Func}(hF:prog.funcs[F]?=some fn)(hb:fn.body=f95.body)(hn:fn.ntmps=7)(hr:fn.results=#[])(p:Addr)(w:fV):
  CallsD Vh F #[.pointer (some p)] .returning w fun e u' w'=>e=.returned (.tuple #[])/\u'=.returning/\w'=w:=by
 refine callsD_of_wpS hF (hb.trans rfl) fun c₀ cs hu=> ?_;apply wpS_seq;apply wpS_region;simp[wpOpsS,go_sem,recoverD,hu,hn,Exit.thenS];refine wpS_of_wp ?_;change Code.wp _ _ _ {tmps:=#[.pointer (some p),.nilIface,.nilIface,undef,undef,undef,undef],defers:=[]} _;go_wp2
 cases c₀
 simp_all[bodyPostS,results,hr]
theorem iG(w:fV)(B:Nat)(s:ByteArray)(h:B=w.heap.size):iL (w.alloc (.cells #[.string s] 166)) B s.data.toList:=by
 subst h;unfold iL;rw[mQ];exact aS6 w _
theorem jk{w W w1:fV}{B:Nat}(g:W.grownBy w1 (some B))(h:gm w.heap.size w W)(hB:w.heap.size<=B):gm w.heap.size w w1:=
 h.grown g h.size (fun k hk=>by simp at hk;omega)
theorem blocks{w w1 W:fV}{s:ByteArray}{Z:Array Value}{T:TypeId}(g:W.grownBy w1 (some (w.heap.size+1+1)))(hW:W=((w.alloc (.cells Z T)).alloc (.cells #[Vb Vg 0] 26)).alloc (.cells #[.string s] 166)):
  w1.heap[w.heap.size]?=some (.cells Z T (0,0))/\w1.heap[w.heap.size+1]?=some (.cells #[Vb Vg 0] 26 (0,0)):=by
 have z2:((w.alloc (.cells Z T)).alloc (.cells #[Vb Vg 0] 26)).heap.size=w.heap.size+1+1:=by simp
 have z1:(w.alloc (.cells Z T)).heap.size=w.heap.size+1:=by simp
 have e0:W.heap[w.heap.size]?=some (.cells Z T (0,0)):=by
  rw[hW,aT1 _ _ _ (by omega),aT1 _ _ _ (by omega)];exact aS6 w _
 have e1:W.heap[w.heap.size+1]?=some (.cells #[Vb Vg 0] 26 (0,0)):=by
  rw[hW,aT1 _ _ _ (by omega)];have q:=aS6 (w.alloc (.cells Z T)) (.cells #[Vb Vg 0] 26);rw[z1]at q;exact q
 exact⟨(g.block _ (aT3 e0) (fun q=>by simp at q;omega)).trans e0,(g.block _ (aT3 e1) (fun q=>by simp at q)).trans e1⟩
theorem je(s:ByteArray)(k:Int)(w:fV)
  (hR:∀u B,iL u B s.data.toList->f_ Vh 57 #[p_ B] u fun ee w'=>ee=.panicked (iH k)/\u.grownBy w' (some B)):
  f_ Vh 56 #[.string s,.func (.func 57) #[] #[]] w fun ee w'=>ee=.returned (.tuple #[.agg (rM 0 0 0 0 0 0 0 0 0 0 0 0 0 ⟨#[]⟩),Vb Vg k])/\gm w.heap.size w w':=by
 have hmf:=hmf_;have HR:=M0 hR;clear hR;go_enter_defers func56,ntmps56
 go_wp2_with fail;refine on_ (HR _ _ (iG _ _ s (by simp))) fun w1 g1=>?_;obtain⟨hr,he⟩:=blocks g1 rfl;refine aZ4 (f:=95) (args:=#[p_ (w.heap.size+1)]) (by simp) (by simp[go_sem]) ?_;refine(jf func95 (by kernel_rfl) (by kernel_rfl) (by kernel_rfl) (a_ (w.heap.size+1) 0) 0 k [] _ (aT8 he) (aW3 he)).mono ?_;rintro e u' w'' ⟨rfl,rfl,rfl⟩;exact⟨_,aL results56 rfl rfl hr he (fun u hu=>ae u _ _ _ _ _ _ hu underlying55 rfl (by kernel_rfl)),rfl,(jk g1 b3_ (by omega)).setCell (by simp) _⟩
theorem nK(s:ByteArray)(a0 a1 a2 a3 a4 a5 a6 a7 a8 a9 a10 a11 a12:Int)(a13:ByteArray)(w:fV)
  (hR:∀u B,iL u B s.data.toList->f_ Vh 57 #[p_ B] u fun ee w'=>ee=.returned (.agg (rM a0 a1 a2 a3 a4 a5 a6 a7 a8 a9 a10 a11 a12 a13))/\u.grownBy w' (some B)):
  f_ Vh 56 #[.string s,.func (.func 57) #[] #[]] w fun ee w'=>ee=.returned (.tuple #[.agg (rM a0 a1 a2 a3 a4 a5 a6 a7 a8 a9 a10 a11 a12 a13),Vb Vg 0])/\gm w.heap.size w w':=by
 have hmf:=hmf_;have HR:=M0 hR;clear hR;go_enter_defers func56,ntmps56
 go_wp2_with fail;refine on_ (HR _ _ (iG _ _ s (by simp))) fun w1 g1=>?_;obtain⟨hr,he⟩:=blocks g1 rfl;have HB:=M0 (jk g1 b3_ (by omega));have hc:=fun cs=>aT8 ((af w1 w.heap.size _ cs (by omega)).trans he);have hf:=fun cs=>aW3 ((af w1 w.heap.size _ cs (by omega)).trans he);go_wp2_with (refine V4 rfl 55 (.tmp 4) (.tmp 11) rfl w.heap.size _ rfl rfl 55 _ hr (by kernel_rfl) (by kernel_rfl) (by kernel_rfl) ?_);refine aZ4 (f:=95) (args:=#[p_ (w.heap.size+1)]) (by simp) (by simp[go_sem]) ?_;refine(kT func95 (by kernel_rfl) (by kernel_rfl) (by kernel_rfl) (a_ (w.heap.size+1) 0) _).mono ?_;rintro e u' w'' ⟨rfl,rfl,rfl⟩;exact⟨_,aQ results56 rfl rfl hr he (fun u hu=>ae u _ _ _ _ _ _ hu underlying55 rfl (by kernel_rfl)),rfl,(aD HB (aS5 _) _).setCell (by simp) _⟩
end gP
namespace Lt
open Bs Rd
open Ip (lS uX)
def bt(l:List UInt8)(i:Nat):Int:=((l.getD i 0).toNat:Int)
def w2(l:List UInt8)(i:Nat):Int:=256*bt l i+bt l (i+1)
def w4(l:List UInt8)(i:Nat):Int:=16777216*bt l i+65536*bt l (i+1)+256*bt l (i+2)+bt l (i+3)
def Co(l:List UInt8):Int:=
 if l.length<20 then 1 else if bt l 0/16≠4∨bt l 0%16<5 then 2 else if 5<bt l 0%16 then 4
 else if w2 l 2<20 then 2 else if((l.length:Nat):Int)<w2 l 2 then 1 else if lS (l.take 20)≠0 then 6
 else if 32768<=w2 l 6∨bt l 8=0 then 2 else if w2 l 6%16384≠0 then 5 else 0
def xX(l:List UInt8)(x:Int):Int:=if Co l=0 then x else 0
def AA(l:List UInt8):ByteArray:=if Co l=0 then⟨((l.drop 20).take ((w2 l 2).toNat-20)).toArray⟩else⟨#[]⟩
theorem nJ{l:List UInt8}{k:Int}(h:Co l=k)(hk:k≠0)(x:Int):xX l x=0:=by unfold xX;rw[aT4 (by rw[h];exact hk)]
theorem EN{l:List UInt8}{k:Int}(h:Co l=k)(hk:k≠0):AA l=⟨#[]⟩:=by unfold AA;rw[aT4 (by rw[h];exact hk)]
theorem pX{l:List UInt8}(h:Co l=0)(x:Int):xX l x=x:=by unfold xX;rw[aU0 h]
theorem I_{l:List UInt8}(h:Co l=0):AA l=⟨((l.drop 20).take ((w2 l 2).toNat-20)).toArray⟩:=by unfold AA;rw[aU0 h]
theorem wL(a b:UInt8):bits .and .u16 (256*(a.toNat:Int)+(b.toNat:Int)) 32768=0↔256*(a.toNat:Int)+(b.toNat:Int)<32768:=by
 have ha:=a.toNat_lt;have hb:=b.toNat_lt;have e:256*(a.toNat:Int)+(b.toNat:Int)=((256*a.toNat+b.toNat:Nat):Int):=by omega
 rw[e,LA _ (by omega)];omega
theorem FQ(a b:UInt8):bits .and .u16 (256*(a.toNat:Int)+(b.toNat:Int)) 16383=0↔(256*(a.toNat:Int)+(b.toNat:Int))%16384=0:=by
 have ha:=a.toNat_lt;have hb:=b.toNat_lt;have e:256*(a.toNat:Int)+(b.toNat:Int)=((256*a.toNat+b.toNat:Nat):Int):=by omega
 rw[e,NG _ (by omega)];omega
theorem twenty(l:List UInt8)(h:20<=l.length):∃a0 a1 a2 a3 a4 a5 a6 a7 a8 a9 a10 a11 a12 a13 a14 a15 a16 a17 a18 a19 r,l=a0::a1::a2::a3::a4::a5::a6::a7::a8::a9::a10::a11::a12::a13::a14::a15::a16::a17::a18::a19::r:=by
 obtain⟨a0,a1,a2,a3,a4,a5,l1,rfl⟩:=gP.sixth l (by omega);simp only[aT0]at h;obtain⟨a6,a7,a8,a9,a10,a11,l2,rfl⟩:=gP.sixth l1 (by omega);simp only[aT0]at h;obtain⟨a12,a13,a14,a15,a16,a17,l3,rfl⟩:=gP.sixth l2 (by omega);simp only[aT0]at h;obtain⟨a18,a19,r,rfl⟩:=gP.second l3 (by omega);exact⟨a0,a1,a2,a3,a4,a5,a6,a7,a8,a9,a10,a11,a12,a13,a14,a15,a16,a17,a18,a19,r,rfl⟩
end Lt
namespace Ut
open Bs Rd Lt
open Ip (lS uX)
open Ud (kR)
def BD(l:List UInt8)(fr ta:Int):Int:=
 if l.length<8 then 1 else if w2 l 4<8 then 2 else if((l.length:Nat):Int)<w2 l 4 then 1
 else if w2 l 6≠0/\lS (kR fr ta (w2 l 4)++l.take (w2 l 4).toNat)≠0 then 6 else 0
def Lr(l:List UInt8)(fr ta x:Int):Int:=if BD l fr ta=0 then x else 0
def Ae(l:List UInt8)(fr ta:Int):ByteArray:=if BD l fr ta=0 then⟨((l.drop 8).take ((w2 l 4).toNat-8)).toArray⟩else⟨#[]⟩
theorem zi{l:List UInt8}{fr ta k:Int}(h:BD l fr ta=k)(hk:k≠0)(x:Int):Lr l fr ta x=0:=by unfold Lr;rw[aT4 (by rw[h];exact hk)]
theorem Ef{l:List UInt8}{fr ta k:Int}(h:BD l fr ta=k)(hk:k≠0):Ae l fr ta=⟨#[]⟩:=by unfold Ae;rw[aT4 (by rw[h];exact hk)]
theorem sS{l:List UInt8}{fr ta:Int}(h:BD l fr ta=0)(x:Int):Lr l fr ta x=x:=by unfold Lr;rw[aU0 h]
theorem JD{l:List UInt8}{fr ta:Int}(h:BD l fr ta=0):Ae l fr ta=⟨((l.drop 8).take ((w2 l 4).toNat-8)).toArray⟩:=by unfold Ae;rw[aU0 h]
theorem eight(l:List UInt8)(h:8<=l.length):∃a0 a1 a2 a3 a4 a5 a6 a7 r,l=a0::a1::a2::a3::a4::a5::a6::a7::r:=by
 obtain⟨a0,a1,a2,a3,a4,a5,l1,rfl⟩:=gP.sixth l (by omega);simp only[aT0]at h;obtain⟨a6,a7,r,rfl⟩:=gP.second l1 (by omega);exact⟨a0,a1,a2,a3,a4,a5,a6,a7,r,rfl⟩
end Ut
namespace Sp
open Bs Rd Lt Ut
open Ip (lS uX kG jY JP Ls)
open Ud (kR si tC Ff uG)
open pQ (jL fold tN)
open Wt (uO qU)
theorem Zo:∀(l:List UInt8) (j:Nat) (x:UInt8) (h:j<l.length),jL (l.set j x)=jL l+((x.toNat:Int)-(l[j].toNat:Int))*(if j%2=0 then 256 else 1)
 |[],j,x,h=>by simp at h
 |[a],0,x,h=>by simp only[aR9,jL,aS2];simp;omega
 |[a],j+1,x,h=>by simp at h
 |a::b::r,0,x,h=>by simp only[aR9,jL,aS2];simp;omega
 |a::b::r,1,x,h=>by simp only[aS0,aR9,jL,aS1,aS2];simp;omega
 |a::b::r,j+2,x,h=>by
  have ih:=Zo r j x (by simpa using h);simp only[aS0,jL,aS1];rw[ih];have e:(j+2)%2=j%2:=by omega
  rw[e];omega
theorem af9(l:List UInt8):lS l=0↔0<jL l/\jL l%65535=0:=by
 have h:=tN l;unfold lS fold
 split<;>omega
theorem ai0(l:List UInt8)(at':Nat)(c:Int)(h:at'+1<l.length)(he:at'%2=0)(z0:l[at']=0)(z1:l[at'+1]=0)(h0:0<=c)(h1:c<=65535):jL (uO l at' c)=jL l+c:=by
 unfold uO;rw[Zo _ (at'+1) _ (by simpa using h),Zo l at' _ (by omega)];rw[List.getElem_set_ne (by omega)];rw[z0,z1,aU0 he,aT4 (by omega),lh,lh];simp;omega
theorem ap6(l:List UInt8)(at':Nat)(h:at'+1<l.length)(he:at'%2=0)(z0:l[at']=0)(z1:l[at'+1]=0):lS (uO l at' (lS l))=0:=by
 have hb:=uX l;rw[af9,ai0 l at' _ h he z0 z1 hb.1 hb.2];have hn:=tN l;unfold lS fold at*
 split at hb<;>(split<;>omega)
theorem aC2(l:List UInt8)(at':Nat)(h:at'+1<l.length)(he:at'%2=0)(z0:l[at']=0)(z1:l[at'+1]=0)(hq:lS l=0):lS (uO l at' 65535)=0:=by
 rw[af9]at hq ⊢;rw[ai0 l at' _ h he z0 z1 (by omega) (by omega)];omega
theorem aj9(n id ttl pr fr ta:Int):lS (kG n id ttl pr fr ta (lS (kG n id ttl pr fr ta 0)))=0:=by
 rw[<-JP];exact ap6 _ 10 (by rw[jY];omega) rfl rfl rfl
theorem al5(id ttl pr fr ta:Int)(load:ByteArray):(Ls id ttl pr fr ta load).length=20+load.size:=by
 rw[Ls,aS9,jY,jc]
theorem ap9(f t fr ta:Int)(load:ByteArray):uG f t fr ta load=iy f++iy t++iy (8+load.size)++iy (Ff f t fr ta load)++load.data.toList:=rfl
theorem YY(f t fr ta:Int)(load:ByteArray):(uG f t fr ta load).length=8+load.size:=by
 rw[ap9];simp[iy];omega
theorem ak1(p l:List UInt8)(k:Nat)(c:Int):p++uO l k c=uO (p++l) (p.length+k) c:=by
 unfold uO;rw[be0 _ _ (by omega),be0 _ _ (by omega)];have e1:p.length+k-p.length=k:=by omega
 have e2:p.length+k+1-p.length=k+1:=by omega
 rw[e1,e2]
theorem au2(f t fr ta:Int)(load:ByteArray):lS (kR fr ta (8+load.size)++uG f t fr ta load)=0:=by
 have e:kR fr ta (8+load.size)++uG f t fr ta load=uO (kR fr ta (8+load.size)++si f t load) 18 (Ff f t fr ta load):=by
  rw[uG,ak1];rfl
 have hlen:(kR fr ta (8+(load.size:Int))++si f t load).length=20+load.size:=by
  rw[aS9,Ud.Fq];simp[si,iy];omega
 rw[e,Ff]
 split
 ·rename_i hq
  exact aC2 _ 18 (by omega) rfl rfl rfl hq
 exact ap6 _ 18 (by omega) rfl rfl rfl
theorem aq6(a b m:List UInt8)(n:Nat)(h:a.length=n):(a++b++m).take n=a:=by rw[aV1,bj2 h]
theorem aq1(id ttl pr fr ta:Int)(load:ByteArray)(m:List UInt8):(Ls id ttl pr fr ta load++m).length=20+load.size+m.length:=by rw[aS9,al5]
theorem aw0(id ttl pr fr ta:Int)(load:ByteArray)(m:List UInt8)(hl:load.size<=1480):w2 (Ls id ttl pr fr ta load++m) 2=20+(load.size:Int):=by
 have b2:w2 (Ls id ttl pr fr ta load++m) 2=256*((gJ ((20+(load.size:Int))/256)).toNat:Int)+((gJ (20+(load.size:Int))).toNat:Int):=rfl;rw[lh,lh]at b2;omega
theorem aA1(id ttl pr fr ta:Int)(load:ByteArray)(m:List UInt8)(ht:0<ttl/\ttl<=255)(hl:load.size<=1480):Co (Ls id ttl pr fr ta load++m)=0:=by
 have b0:bt (Ls id ttl pr fr ta load++m) 0=69:=rfl;have b2:=aw0 id ttl pr fr ta load m hl;have b6:w2 (Ls id ttl pr fr ta load++m) 6=256*((gJ (16384/256)).toNat:Int)+((gJ 16384).toNat:Int):=rfl;have b8:bt (Ls id ttl pr fr ta load++m) 8=((gJ ttl).toNat:Int):=rfl;rw[lh,lh]at b6;rw[lh]at b8;have tk:(Ls id ttl pr fr ta load++m).take 20=kG (20+load.size) id ttl pr fr ta (lS (kG (20+load.size) id ttl pr fr ta 0)):=aq6 _ _ m 20 (jY _ _ _ _ _ _ _);unfold Co;rw[b0,b2,b6,b8,tk,aq1,aT4 (by omega),aT4 (by omega),aT4 (by omega),aT4 (by omega),aT4 (by omega),aT4 (fun q=>q (aj9 _ _ _ _ _ _)),aT4 (by omega),aT4 (by omega)]
theorem aJ9(id ttl pr fr ta:Int)(load:ByteArray)(m:List UInt8)(h:0<=id/\id<=65535):w2 (Ls id ttl pr fr ta load++m) 4=id:=by
 have b:w2 (Ls id ttl pr fr ta load++m) 4=256*((gJ (id/256)).toNat:Int)+((gJ id).toNat:Int):=rfl;rw[lh,lh]at b;omega
theorem aD2(id ttl pr fr ta:Int)(load:ByteArray)(m:List UInt8)(h:0<=ttl/\ttl<=255):bt (Ls id ttl pr fr ta load++m) 8=ttl:=by
 have b:bt (Ls id ttl pr fr ta load++m) 8=((gJ ttl).toNat:Int):=rfl;rw[lh]at b;omega
theorem aH0(id ttl pr fr ta:Int)(load:ByteArray)(m:List UInt8)(h:0<=pr/\pr<=255):bt (Ls id ttl pr fr ta load++m) 9=pr:=by
 have b:bt (Ls id ttl pr fr ta load++m) 9=((gJ pr).toNat:Int):=rfl;rw[lh]at b;omega
theorem aH8(id ttl pr fr ta:Int)(load:ByteArray)(m:List UInt8)(h:0<=fr/\fr<=4294967295):w4 (Ls id ttl pr fr ta load++m) 12=fr:=by
 have b:w4 (Ls id ttl pr fr ta load++m) 12=16777216*((gJ (fr/65536/256)).toNat:Int)+65536*((gJ (fr/65536)).toNat:Int)+256*((gJ (fr%65536/256)).toNat:Int)+((gJ (fr%65536)).toNat:Int):=rfl;rw[lh,lh,lh,lh]at b;omega
theorem aG7(id ttl pr fr ta:Int)(load:ByteArray)(m:List UInt8)(h:0<=ta/\ta<=4294967295):w4 (Ls id ttl pr fr ta load++m) 16=ta:=by
 have b:w4 (Ls id ttl pr fr ta load++m) 16=16777216*((gJ (ta/65536/256)).toNat:Int)+65536*((gJ (ta/65536)).toNat:Int)+256*((gJ (ta%65536/256)).toNat:Int)+((gJ (ta%65536)).toNat:Int):=rfl;rw[lh,lh,lh,lh]at b;omega
theorem aK7(id ttl pr fr ta:Int)(load:ByteArray)(m:List UInt8)(hl:load.size<=1480):((Ls id ttl pr fr ta load++m).drop 20).take ((w2 (Ls id ttl pr fr ta load++m) 2).toNat-20)=load.data.toList:=by
 rw[aw0 id ttl pr fr ta load m hl,Ls,aV1,List.drop_left' (jY _ _ _ _ _ _ _),bj2 (by rw[jc];omega)]
theorem aq0(f t fr ta:Int)(load:ByteArray)(m:List UInt8):(uG f t fr ta load++m).length=8+load.size+m.length:=by rw[aS9,YY]
theorem ay9(f t fr ta:Int)(load:ByteArray)(m:List UInt8)(hl:load.size<=1472):w2 (uG f t fr ta load++m) 4=8+(load.size:Int):=by
 have b:w2 (uG f t fr ta load++m) 4=256*((gJ ((8+(load.size:Int))/256)).toNat:Int)+((gJ (8+(load.size:Int))).toNat:Int):=rfl;rw[lh,lh]at b;omega
theorem aC1(f t fr ta:Int)(load:ByteArray)(m:List UInt8)(hl:load.size<=1472):BD (uG f t fr ta load++m) fr ta=0:=by
 have e4:=ay9 f t fr ta load m hl;have tk:(uG f t fr ta load++m).take (8+(load.size:Int)).toNat=uG f t fr ta load:=bj2 (by rw[YY];omega);unfold BD;rw[e4,aq0,tk,aT4 (by omega),aT4 (by omega),aT4 (by omega),aT4 (fun q=>q.2 (au2 f t fr ta load))]
theorem aM5(f t fr ta:Int)(load:ByteArray)(m:List UInt8)(h:0<=f/\f<=65535):w2 (uG f t fr ta load++m) 0=f:=by
 have b:w2 (uG f t fr ta load++m) 0=256*((gJ (f/256)).toNat:Int)+((gJ f).toNat:Int):=rfl;rw[lh,lh]at b;omega
theorem aM4(f t fr ta:Int)(load:ByteArray)(m:List UInt8)(h:0<=t/\t<=65535):w2 (uG f t fr ta load++m) 2=t:=by
 have b:w2 (uG f t fr ta load++m) 2=256*((gJ (t/256)).toNat:Int)+((gJ t).toNat:Int):=rfl;rw[lh,lh]at b;omega
theorem aI2(f t fr ta:Int)(load:ByteArray)(m:List UInt8)(hl:load.size<=1472):((uG f t fr ta load++m).drop 8).take ((w2 (uG f t fr ta load++m) 4).toNat-8)=load.data.toList:=by
 have e:uG f t fr ta load++m=(iy f++iy t++iy (8+load.size)++iy (Ff f t fr ta load))++(load.data.toList++m):=by rw[ap9,aV1]
 rw[ay9 f t fr ta load m hl,e,List.drop_left' (show(iy f++iy t++iy (8+load.size)++iy (Ff f t fr ta load)).length=8 from rfl),bj2 (by rw[jc];omega)]
end Sp
namespace gP
open Bs Rd
theorem iU(s:ByteArray)(a0 a1 a2 a3 a4 a5 a6 a7 a8 a9 a10 a11 a12:Int)(a13:ByteArray)(k:Int)(w:fV)
  (hR:∀u:fV,f_ Vh 56 #[.string s,.func (.func 57) #[] #[]] u fun ee w'=>ee=.returned (.tuple #[.agg (rM a0 a1 a2 a3 a4 a5 a6 a7 a8 a9 a10 a11 a12 a13),Vb Vg k])/\gm u.heap.size u w'):
  f_ Vh 33 #[.string s] w fun ee w'=>ee=.returned (.tuple #[.agg (rM a0 a1 a2 a3 a4 a5 a6 a7 a8 a9 a10 a11 a12 a13),Vb Vg k])/\gm w.heap.size w w':=by
 have HR:=M0 hR;clear hR;go_enter func33,ntmps33;go_wp2_with fail;refine on_ (HR _) fun w1 hb=>?_;have hr:=(hb.block _ (by simp)).trans (aS6 w _);go_wp2_with (refine V4 rfl 55 (.tmp 2) (.tmp 6) rfl w.heap.size _ rfl rfl 55 _ hr (by kernel_rfl) (by kernel_rfl) (by kernel_rfl) ?_);exact aC results33 rfl rfl rfl hr (fun u hu=>ae u _ _ _ _ _ _ hu underlying55 rfl (by kernel_rfl)) (fun q=>⟨rfl,q⟩) b1_ hb (aS5 _)
theorem Xu(s:ByteArray)(a0 a1 a2 a3 a4 a5 a6 a7 a8 a9 a10 a11 a12:Int)(a13:ByteArray)(k:Int)(w:fV)
  (hR:∀u:fV,f_ Vh 33 #[.string s] u fun ee w'=>ee=.returned (.tuple #[.agg (rM a0 a1 a2 a3 a4 a5 a6 a7 a8 a9 a10 a11 a12 a13),Vb Vg k])/\gm u.heap.size u w'):
  f_ Vh 19 #[.string s] w fun ee w'=>ee=.returned (.tuple #[.agg (rM a0 a1 a2 a3 a4 a5 a6 a7 a8 a9 a10 a11 a12 a13),Vb Vg k])/\gm w.heap.size w w':=by
 have HR:=M0 hR;clear hR;go_enter func19,ntmps19;go_wp2_with fail;refine on_ (HR _) fun w1 hb=>?_;have hr:=(hb.block _ (by simp)).trans (aS6 w _);go_wp2_with (refine V4 rfl 55 (.tmp 2) (.tmp 6) rfl w.heap.size _ rfl rfl 55 _ hr (by kernel_rfl) (by kernel_rfl) (by kernel_rfl) ?_);exact aC results19 rfl rfl rfl hr (fun u hu=>ae u _ _ _ _ _ _ hu underlying55 rfl (by kernel_rfl)) (fun q=>⟨rfl,q⟩) b1_ hb (aS5 _)
end gP
namespace Uw
open Bs Rd
open gP (other gN gD gM gI)
open Ip (lS uX)
theorem zo(B:Nat)(l:List UInt8)(w:fV)(h:iL w B l)(hn:l.length<20):
  f_ Vh 59 #[p_ B] w fun ee w'=>ee=.panicked (iH 1)/\w.grownBy w' (some B):=by
 have hB:=h.lt;have hne0:w.heap.size≠B:=by omega
 have H0:=M0 (h.alloc (.cells zU_ 59));have G0:=M0 (gV (il w (some B)) (.cells zU_ 59));have R0:Hid ((w.alloc (.cells zU_ 59)).heap[w.heap.size]?=some (.cells zU_ 59 (0,0))):=aS6 w _;clear h;go_enter func59,ntmps59;go_wp2_with fail;refine on_ (vZ _ _ _ _ H0 (by omega)) fun wz hwz=>?_;exact⟨rfl,rfl,by rw[hwz];exact gB G0⟩
theorem zw(B:Nat)(a0 a1 a2 a3 a4 a5 a6 a7 a8 a9 a10 a11 a12 a13 a14 a15 a16 a17 a18 a19:UInt8)(l:List UInt8)(w:fV)(h:iL w B (a0::a1::a2::a3::a4::a5::a6::a7::a8::a9::a10::a11::a12::a13::a14::a15::a16::a17::a18::a19::l))(hs:(a0::a1::a2::a3::a4::a5::a6::a7::a8::a9::a10::a11::a12::a13::a14::a15::a16::a17::a18::a19::l).length<=maxLen)(k:Int)(hx:∀u,iL u B (a0::a1::a2::a3::a4::a5::a6::a7::a8::a9::a10::a11::a12::a13::a14::a15::a16::a17::a18::a19::l)->f_ Vh 105 #[p_ B] u fun e w'=>e=.panicked (iH k)/\u.grownBy w' (some B)):
  f_ Vh 59 #[p_ B] w fun ee w'=>ee=.panicked (iH k)/\w.grownBy w' (some B):=by
 obtain⟨s,hS⟩:∃s:ByteArray,s=⟨(a0::a1::a2::a3::a4::a5::a6::a7::a8::a9::a10::a11::a12::a13::a14::a15::a16::a17::a18::a19::l).toArray⟩:=⟨_,rfl⟩;have hz:s.size=l.length+20:=by rw[hS,gL];simp
 have hmx:(s.size:Int)<=9223372036854775807:=by rw[hz];simp only[aT0,maxLen]at hs;omega
 have hk20:(20:Int)<=(s.size:Int):=by omega
 have hB:=h.lt;have hne0:w.heap.size≠B:=by omega
 have H0:=M0 (h.alloc (.cells zU_ 59));have G0:=M0 (gV (il w (some B)) (.cells zU_ 59));have R0:Hid ((w.alloc (.cells zU_ 59)).heap[w.heap.size]?=some (.cells zU_ 59 (0,0))):=aS6 w _;have hc0:(w.alloc (.cells zU_ 59)).cell? (a_ B 0)=some (.string s):=by rw[hS];exact aT8 H0
 have hn0:(20:Int)<=((a0::a1::a2::a3::a4::a5::a6::a7::a8::a9::a10::a11::a12::a13::a14::a15::a16::a17::a18::a19::l).length:Int):=by simp only[aT0];omega
 have HN0:=M0 hn0;clear h hn0;have T1:=M0 hx;clear hx hS hz;go_enter func59,ntmps59;go_wp2_with fail;refine on_ (kQ _ _ _ _ H0 HN0) fun wz hwz=>?_;rw[hwz];clear hwz wz;go_wp2_with fail;refine on_ (T1 _ H0) fun wz gz=>?_;exact⟨rfl,rfl,gH G0 gz⟩
theorem BS(B:Nat)(a0 a1 a2 a3 a4 a5 a6 a7 a8 a9 a10 a11 a12 a13 a14 a15 a16 a17 a18 a19:UInt8)(l:List UInt8)(w:fV)(h:iL w B (a0::a1::a2::a3::a4::a5::a6::a7::a8::a9::a10::a11::a12::a13::a14::a15::a16::a17::a18::a19::l))(hs:(a0::a1::a2::a3::a4::a5::a6::a7::a8::a9::a10::a11::a12::a13::a14::a15::a16::a17::a18::a19::l).length<=maxLen)(h0:a0.toNat=69)(k:Int)(hx:∀u,iL u B (a2::a3::a4::a5::a6::a7::a8::a9::a10::a11::a12::a13::a14::a15::a16::a17::a18::a19::l)->f_ Vh 106 #[p_ B,Vb Vg 20,Vb Vg ((l.length+20:Nat):Int)] u fun e w'=>e=.panicked (iH k)/\u.grownBy w' (some B)):
  f_ Vh 59 #[p_ B] w fun ee w'=>ee=.panicked (iH k)/\w.grownBy w' (some B):=by
 obtain⟨s,hS⟩:∃s:ByteArray,s=⟨(a0::a1::a2::a3::a4::a5::a6::a7::a8::a9::a10::a11::a12::a13::a14::a15::a16::a17::a18::a19::l).toArray⟩:=⟨_,rfl⟩;have hz:s.size=l.length+20:=by rw[hS,gL];simp
 have hmx:(s.size:Int)<=9223372036854775807:=by rw[hz];simp only[aT0,maxLen]at hs;omega
 have hk20:(20:Int)<=(s.size:Int):=by omega
 have hB:=h.lt;have hne0:w.heap.size≠B:=by omega
 have H0:=M0 (h.alloc (.cells zU_ 59));have G0:=M0 (gV (il w (some B)) (.cells zU_ 59));have R0:Hid ((w.alloc (.cells zU_ 59)).heap[w.heap.size]?=some (.cells zU_ 59 (0,0))):=aS6 w _;have hc0:(w.alloc (.cells zU_ 59)).cell? (a_ B 0)=some (.string s):=by rw[hS];exact aT8 H0
 have hn0:(20:Int)<=((a0::a1::a2::a3::a4::a5::a6::a7::a8::a9::a10::a11::a12::a13::a14::a15::a16::a17::a18::a19::l).length:Int):=by simp only[aT0];omega
 have HN0:=M0 hn0;clear h hn0;have T1:=M0 (fun u hu=>zz B a0 a1 (a2::a3::a4::a5::a6::a7::a8::a9::a10::a11::a12::a13::a14::a15::a16::a17::a18::a19::l) u hu hs h0);have T2:=M0 (fun u hu=>hx u hu);rw[<-hz]at T2;clear hx h0 hS hz;go_enter func59,ntmps59;go_wp2_with fail;refine on_ (kQ _ _ _ _ H0 HN0) fun wz hwz=>?_;rw[hwz];clear hwz wz;go_wp2_with fail;refine on_ (T1 _ H0) ?_;rintro w1 ⟨k1,g1⟩;have hr:w1.heap[w.heap.size]?=some (.cells zU_ 59 (0,0)):=(g1.block _ (aT3 R0) (fun q=>hne0 (by simpa using q))).trans R0;have H1:=M0 k1;have G1:=M0 (gH G0 g1);have R1:=M0 hr;clear hr k1 g1 H0 G0 R0;go_wp2_with fail;refine on_ (T2 _ H1) fun wz gz=>?_;exact⟨rfl,rfl,gH G1 gz⟩
def Gm(c x6 x8:Int)(v:Value)(ee:Ending):Prop:=if c≠0 then ee=.panicked (iH 6)else if bits .and .u16 x6 32768≠0 then ee=.panicked (iH 2)else if x8=0 then ee=.panicked (iH 2)else if bits .and .u16 x6 16383≠0 then ee=.panicked (iH 5)else ee=.returned v
section
variable{c x6 x8:Int} {v:Value}
theorem S_(h:c≠0):Gm c x6 x8 v (.panicked (iH 6)):=by unfold Gm;rw[aU0 h]
theorem TB(h:bits .and .u16 x6 32768≠0):Gm 0 x6 x8 v (.panicked (iH 2)):=by unfold Gm;rw[aT4 (by simp),aU0 h]
theorem bm1(h:bits .and .u16 x6 32768=0):Gm 0 x6 0 v (.panicked (iH 2)):=by unfold Gm;rw[aT4 (by simp),aT4 (by simpa using h),aU0 rfl]
theorem Sw(h:bits .and .u16 x6 32768=0)(ht:x8≠0)(hp:bits .and .u16 x6 16383≠0):Gm 0 x6 x8 v (.panicked (iH 5)):=by unfold Gm;rw[aT4 (by simp),aT4 (by simpa using h),aT4 ht,aU0 hp]
theorem Ru(h:bits .and .u16 x6 32768=0)(ht:x8≠0)(hp:bits .and .u16 x6 16383=0):Gm 0 x6 x8 v (.returned v):=by unfold Gm;rw[aT4 (by simp),aT4 (by simpa using h),aT4 ht,aT4 (by simpa using hp)]
end
theorem Ql{u:fV}{g:Nat}{t:TypeId}{b0 b1 b2 b3 b4 b5:Value}(h:u.heap[g]?=some (.cells #[b0,b1,b2,b3,b4,b5] t (0,0))):u.cell? (a_ g 0)=some b0/\u.cell? (a_ g 1)=some b1/\u.cell? (a_ g 2)=some b2/\u.cell? (a_ g 3)=some b3/\u.cell? (a_ g 4)=some b4/\u.cell? (a_ g 5)=some b5:=by
 have q:=fun j=>aS3 u g j _ _ _ h;exact⟨q 0,q 1,q 2,q 3,q 4,q 5⟩
theorem wE(B:Nat)(a0 a1 a2 a3 a4 a5 a6 a7 a8 a9 a10 a11 a12 a13 a14 a15 a16 a17 a18 a19:UInt8)(l:List UInt8)(w:fV)(h:iL w B (a0::a1::a2::a3::a4::a5::a6::a7::a8::a9::a10::a11::a12::a13::a14::a15::a16::a17::a18::a19::l))(hs:(a0::a1::a2::a3::a4::a5::a6::a7::a8::a9::a10::a11::a12::a13::a14::a15::a16::a17::a18::a19::l).length<=maxLen)(h0:a0.toNat=69)(k:Nat)(hn:(256*(a2.toNat:Int)+(a3.toNat:Int))=20+(k:Int))(hk:k<=l.length)(hL:l.length<=1099511627776):
  f_ Vh 59 #[p_ B] w fun ee w'=>Gm (lS [a0,a1,a2,a3,a4,a5,a6,a7,a8,a9,a10,a11,a12,a13,a14,a15,a16,a17,a18,a19]) (256*(a6.toNat:Int)+(a7.toNat:Int)) (a8.toNat:Int) (.agg (rU (256*(a4.toNat:Int)+(a5.toNat:Int)) (a8.toNat:Int) (a9.toNat:Int) (16777216*(a12.toNat:Int)+65536*(a13.toNat:Int)+256*(a14.toNat:Int)+(a15.toNat:Int)) (16777216*(a16.toNat:Int)+65536*(a17.toNat:Int)+256*(a18.toNat:Int)+(a19.toNat:Int)) ⟨(l.take k).toArray⟩)) ee/\w.grownBy w' (some B):=by
 obtain⟨s,hS⟩:∃s:ByteArray,s=⟨(a0::a1::a2::a3::a4::a5::a6::a7::a8::a9::a10::a11::a12::a13::a14::a15::a16::a17::a18::a19::l).toArray⟩:=⟨_,rfl⟩;have hz:s.size=l.length+20:=by rw[hS,gL];simp
 have hmx:(s.size:Int)<=9223372036854775807:=by rw[hz];simp only[aT0,maxLen]at hs;omega
 have hk20:(20:Int)<=(s.size:Int):=by omega
 have hB:=h.lt;have hne0:w.heap.size≠B:=by omega
 have H0:=M0 (h.alloc (.cells zU_ 59));have G0:=M0 (gV (il w (some B)) (.cells zU_ 59));have R0:Hid ((w.alloc (.cells zU_ 59)).heap[w.heap.size]?=some (.cells zU_ 59 (0,0))):=aS6 w _;have hc0:(w.alloc (.cells zU_ 59)).cell? (a_ B 0)=some (.string s):=by rw[hS];exact aT8 H0
 have hn0:(20:Int)<=((a0::a1::a2::a3::a4::a5::a6::a7::a8::a9::a10::a11::a12::a13::a14::a15::a16::a17::a18::a19::l).length:Int):=by simp only[aT0];omega
 have HN0:=M0 hn0;clear h hn0;have T1:=M0 (fun u hu=>zz B a0 a1 (a2::a3::a4::a5::a6::a7::a8::a9::a10::a11::a12::a13::a14::a15::a16::a17::a18::a19::l) u hu hs h0);have T2:=(fun u hu=>uj B a2 a3 (a4::a5::a6::a7::a8::a9::a10::a11::a12::a13::a14::a15::a16::a17::a18::a19::l) 20 (s.size:Int) u hu (by simp only[aT0,maxLen]at hs ⊢;omega) (by omega) (by omega));rw[hn]at T2;have T2:=M0 T2;have TC:=(fun u=>pQ.uW (s.extract 0 20) u (by rw[bf7];omega));have ec:65535-pQ.fold (pQ.jL (s.extract 0 20).data.toList)=lS [a0,a1,a2,a3,a4,a5,a6,a7,a8,a9,a10,a11,a12,a13,a14,a15,a16,a17,a18,a19]:=by
  rw[hS,iX];simp[lS]
 obtain⟨c,hc⟩:=ex_ (lS [a0,a1,a2,a3,a4,a5,a6,a7,a8,a9,a10,a11,a12,a13,a14,a15,a16,a17,a18,a19]);rw[ec,<-hc]at TC;rw[<-hc];have TC:=M0 TC;have T3:=M0 (fun u hu=>jo B a4 a5 (a6::a7::a8::a9::a10::a11::a12::a13::a14::a15::a16::a17::a18::a19::l) u hu (by simp only[aT0,maxLen]at hs ⊢;omega));have T4:=M0 (fun u hu=>jo B a6 a7 (a8::a9::a10::a11::a12::a13::a14::a15::a16::a17::a18::a19::l) u hu (by simp only[aT0,maxLen]at hs ⊢;omega));have T5:=M0 (fun u hu=>ky B a8 (a9::a10::a11::a12::a13::a14::a15::a16::a17::a18::a19::l) u hu (by simp only[aT0,maxLen]at hs ⊢;omega));obtain⟨x4,hx4⟩:=ex_ ((256*(a4.toNat:Int)+(a5.toNat:Int)));obtain⟨x6,hx6⟩:=ex_ ((256*(a6.toNat:Int)+(a7.toNat:Int)));obtain⟨x8,hx8⟩:=ex_ ((a8.toNat:Int));rw[<-hx4]at T3;rw[<-hx6]at T4 ⊢;rw[<-hx8]at T5 ⊢;have T6:=M0 (fun u hu=>ky B a9 (a10::a11::a12::a13::a14::a15::a16::a17::a18::a19::l) u hu (by simp only[aT0,maxLen]at hs ⊢;omega));have T7:=M0 (fun u hu=>jo B a10 a11 (a12::a13::a14::a15::a16::a17::a18::a19::l) u hu (by simp only[aT0,maxLen]at hs ⊢;omega));have T8:=M0 (fun u hu=>jg B a12 a13 a14 a15 (a16::a17::a18::a19::l) u hu (by simp only[aT0,maxLen]at hs ⊢;omega));have T9:=M0 (fun u hu=>jg B a16 a17 a18 a19 l u hu (by simp only[aT0,maxLen]at hs ⊢;omega));have T10:=M0 (fun u hu=>za B l k u hu (by omega) (by omega));obtain⟨x9,hx9⟩:=ex_ ((a9.toNat:Int));obtain⟨x12,hx12⟩:=ex_ ((16777216*(a12.toNat:Int)+65536*(a13.toNat:Int)+256*(a14.toNat:Int)+(a15.toNat:Int)));obtain⟨x16,hx16⟩:=ex_ ((16777216*(a16.toNat:Int)+65536*(a17.toNat:Int)+256*(a18.toNat:Int)+(a19.toNat:Int)));rw[<-hx9]at T6 ⊢;rw[<-hx12]at T8 ⊢;rw[<-hx16]at T9 ⊢;rw[<-hx4];have hq:IntKind.i64.wrap (20+(k:Int)-20)=(k:Int):=by rw[wrap_i64 _ (by omega) (by omega)];omega
 have hq2:(20+(k:Int)-20)=(k:Int):=by omega
 clear hx9 hx12 hx16;clear hx4 hx6 hx8;clear hS hz ec hc h0 hn;go_enter func59,ntmps59;go_wp2_with fail;refine on_ (kQ _ _ _ _ H0 HN0) fun wz hwz=>?_;rw[hwz];clear hwz wz;go_wp2_with fail;refine on_ (T1 _ H0) ?_;rintro w1 ⟨k1,g1⟩;have hr:w1.heap[w.heap.size]?=some (.cells zU_ 59 (0,0)):=(g1.block _ (aT3 R0) (fun q=>hne0 (by simpa using q))).trans R0;have H1:=M0 k1;have G1:=M0 (gH G0 g1);have R1:=M0 hr;clear hr k1 g1 H0 G0 R0;go_wp2_with fail;refine on_ (T2 _ H1) ?_;rintro w2 ⟨k2,g2⟩;have hr:w2.heap[w.heap.size]?=some (.cells zU_ 59 (0,0)):=(g2.block _ (aT3 R1) (fun q=>hne0 (by simpa using q))).trans R1;have H2:=M0 k2;have G2:=M0 (gH G1 g2);have R2:=M0 hr;clear hr k2 g2 H1 G1 R1;go_wp2_with fail;refine on_ (TC _) fun wz hwz=>?_;rw[hwz];clear hwz wz
 by_cases hsum:c=0
 case neg=>
  have hcn:(c==0)=false:=by simpa using hsum
  go_wp2_with fail;refine on_ (iR _ (by first|exact hcn|simp|simpa using hsum) _ _) fun wz hwz=>?_;exact⟨rfl,S_ hsum,by rw[hwz];exact gB G2⟩
 subst hsum;go_wp2_with fail;refine on_ (jD _ (by simp) _ _) fun wz hwz=>?_;rw[hwz];clear hwz wz;have S3:=M0 (VS.make hB H2 G2 R2);clear H2 G2 R2;go_wp2_with fail;refine on_ (T3 _ S3.D8) ?_;rintro w4 ⟨k1,g1⟩;have S4:=M0 (S3.next k1 g1);have S5:=M0 (S4.sets [(0,Vb Ve x4)] (cs':=(rU x4 0 0 0 0 ⟨#[]⟩)) rfl);have x_4:=gP.gD S4.var (j:=0) rfl;have f1:=S4.free.1;clear k1 g1 S3 S4;go_wp2_with fail;refine on_ (T4 _ S5.D8) ?_;rintro w5 ⟨k1,g1⟩;have S6:=M0 (S5.next k1 g1);clear k1 g1 S5;clear x_4 f1;go_wp2_with fail;refine on_ (T5 _ S6.D8) ?_;rintro w6 ⟨k1,g1⟩;have S7:=M0 (S6.next k1 g1);have S8:=M0 (S7.sets [(1,Vb Vd x8)] (cs':=(rU x4 x8 0 0 0 ⟨#[]⟩)) rfl);have x_6:=gP.gD S7.var (j:=1) rfl;have f1:=S7.free.1;clear k1 g1 S6 S7;have cT:=gP.gD S8.var (j:=1) rfl;simp only[N8]at cT
 by_cases hf:bits .and .u16 x6 32768=0
 case neg=>
  have hfn:(bits .and .u16 x6 32768==0)=false:=by simpa using hf
  go_wp2_with fail;refine on_ (iR _ (by simp) _ _) fun wz hwz=>?_;exact⟨rfl,TB hf,by rw[hwz];exact S8.grown⟩
 by_cases ht:x8=0
 case pos=>
  subst ht;go_wp2_with fail;refine on_ (iR _ (by simp) _ _) fun wz hwz=>?_;exact⟨rfl,bm1 hf,by rw[hwz];exact S8.grown⟩
 have htn:(x8==0)=false:=by simpa using ht
 go_wp2_with fail;refine on_ (jD _ (by simpa using ht) _ _) fun wz hwz=>?_;rw[hwz];clear hwz wz
 by_cases hp:bits .and .u16 x6 16383=0
 case neg=>
  have hpn:(bits .and .u16 x6 16383==0)=false:=by simpa using hp
  go_wp2_with fail;refine on_ (iR _ (by simp) _ _) fun wz hwz=>?_;exact⟨rfl,Sw hf ht hp,by rw[hwz];exact S8.grown⟩
 go_wp2_with fail;refine on_ (jD _ (by simp) _ _) fun wz hwz=>?_;rw[hwz];clear hwz wz cT x_6 f1;go_wp2_with fail;refine on_ (T6 _ S8.D8) ?_;rintro w7 ⟨k1,g1⟩;have S9:=M0 (S8.next k1 g1);have S10:=M0 (S9.sets [(2,Vb Vd x9)] (cs':=(rU x4 x8 x9 0 0 ⟨#[]⟩)) rfl);have x_7:=gP.gD S9.var (j:=2) rfl;have f1:=S9.free.1;clear k1 g1 S8 S9;go_wp2_with fail;refine on_ (T7 _ S10.D8) ?_;rintro w8 ⟨k1,g1⟩;have S11:=M0 (S10.next k1 g1);clear k1 g1 S10;clear x_7 f1;go_wp2_with fail;refine on_ (T8 _ S11.D8) ?_;rintro w9 ⟨k1,g1⟩;have S12:=M0 (S11.next k1 g1);have S13:=M0 (S12.sets [(3,Vb Vf x12)] (cs':=(rU x4 x8 x9 x12 0 ⟨#[]⟩)) rfl);have x_9:=gP.gD S12.var (j:=3) rfl;have f1:=S12.free.1;clear k1 g1 S11 S12;go_wp2_with fail;refine on_ (T9 _ S13.D8) ?_;rintro w10 ⟨k1,g1⟩;have S14:=M0 (S13.next k1 g1);have S15:=M0 (S14.sets [(4,Vb Vf x16)] (cs':=(rU x4 x8 x9 x12 x16 ⟨#[]⟩)) rfl);clear x_9 f1;have x_10:=gP.gD S14.var (j:=4) rfl;have f1:=S14.free.1;clear k1 g1 S13 S14;go_wp2_with fail;refine on_ (T10 _ S15.D8) ?_;rintro w11 ⟨k1,g1⟩;clear x_10 f1;have S16:=M0 (S15.next k1 g1);have HG:=M0 ((S16.set 5 (.string ⟨(l.take k).toArray⟩)).done [(0,Vb Ve x4),(1,Vb Vd x8),(2,Vb Vd x9),(3,Vb Vf x12),(4,Vb Vf x16),(5,.string ⟨(l.take k).toArray⟩)]);obtain⟨x0,x1,x2,x3,x4',x5⟩:=Ql S16.var;obtain⟨y0,y1,y2,y3,y4,y5⟩:=Ql S16.res;obtain⟨f1,f2⟩:=S16.free;have hlt0:=S16.lv;have hneV:w2.heap.size≠B:=by have:=S16.lo;omega
 clear k1 g1 S15 S16;have HP:=M0 (And.intro hf (And.intro ht hp));clear hf ht hp htn;go_wp2;refine aU6 (v:=.agg (rU x4 x8 x9 x12 x16 ⟨(l.take k).toArray⟩)) (by simp[results,results59,go_sem,y0,y1,y2,y3,y4,y5]) rfl ?_;exact⟨Ru HP.1 HP.2.1 HP.2.2,HG⟩
section
variable(B:Nat) (a0 a1 a2 a3 a4 a5 a6 a7 a8 a9 a10 a11 a12 a13 a14 a15 a16 a17 a18 a19:UInt8) (l:List UInt8) (w:fV) (h:iL w B (a0::a1::a2::a3::a4::a5::a6::a7::a8::a9::a10::a11::a12::a13::a14::a15::a16::a17::a18::a19::l)) (hs:(a0::a1::a2::a3::a4::a5::a6::a7::a8::a9::a10::a11::a12::a13::a14::a15::a16::a17::a18::a19::l).length≤maxLen) (h0:a0.toNat=69) (k:Nat) (hn:(256*(a2.toNat:Int)+(a3.toNat:Int))=20+(k:Int)) (hk:k≤l.length) (hL:l.length≤1099511627776)
include h hs h0 hn hk hL
theorem IU(hsum:lS [a0,a1,a2,a3,a4,a5,a6,a7,a8,a9,a10,a11,a12,a13,a14,a15,a16,a17,a18,a19]≠0):f_ Vh 59 #[p_ B] w fun ee w'=>ee=.panicked (iH 6)/\w.grownBy w' (some B):=(wE B a0 a1 a2 a3 a4 a5 a6 a7 a8 a9 a10 a11 a12 a13 a14 a15 a16 a17 a18 a19 l w h hs h0 k hn hk hL).mono fun ee _ q=>⟨by have q:=q.1;unfold Gm at q;rwa [aU0 hsum]at q,q.2⟩
theorem CR(hsum:lS [a0,a1,a2,a3,a4,a5,a6,a7,a8,a9,a10,a11,a12,a13,a14,a15,a16,a17,a18,a19]=0)(hf:bits .and .u16 (256*(a6.toNat:Int)+(a7.toNat:Int)) 32768≠0):f_ Vh 59 #[p_ B] w fun ee w'=>ee=.panicked (iH 2)/\w.grownBy w' (some B):=(wE B a0 a1 a2 a3 a4 a5 a6 a7 a8 a9 a10 a11 a12 a13 a14 a15 a16 a17 a18 a19 l w h hs h0 k hn hk hL).mono fun ee _ q=>⟨by have q:=q.1;unfold Gm at q;rwa [aT4 (by simpa using hsum),aU0 hf]at q,q.2⟩
theorem GG(hsum:lS [a0,a1,a2,a3,a4,a5,a6,a7,a8,a9,a10,a11,a12,a13,a14,a15,a16,a17,a18,a19]=0)(hf:bits .and .u16 (256*(a6.toNat:Int)+(a7.toNat:Int)) 32768=0)(ht:(a8.toNat:Int)=0):f_ Vh 59 #[p_ B] w fun ee w'=>ee=.panicked (iH 2)/\w.grownBy w' (some B):=(wE B a0 a1 a2 a3 a4 a5 a6 a7 a8 a9 a10 a11 a12 a13 a14 a15 a16 a17 a18 a19 l w h hs h0 k hn hk hL).mono fun ee _ q=>⟨by have q:=q.1;unfold Gm at q;rwa [aT4 (by simpa using hsum),aT4 (by simpa using hf),aU0 ht]at q,q.2⟩
theorem C8(hsum:lS [a0,a1,a2,a3,a4,a5,a6,a7,a8,a9,a10,a11,a12,a13,a14,a15,a16,a17,a18,a19]=0)(hf:bits .and .u16 (256*(a6.toNat:Int)+(a7.toNat:Int)) 32768=0)(ht:(a8.toNat:Int)≠0)(hp:bits .and .u16 (256*(a6.toNat:Int)+(a7.toNat:Int)) 16383≠0):f_ Vh 59 #[p_ B] w fun ee w'=>ee=.panicked (iH 5)/\w.grownBy w' (some B):=(wE B a0 a1 a2 a3 a4 a5 a6 a7 a8 a9 a10 a11 a12 a13 a14 a15 a16 a17 a18 a19 l w h hs h0 k hn hk hL).mono fun ee _ q=>⟨by have q:=q.1;unfold Gm at q;rwa [aT4 (by simpa using hsum),aT4 (by simpa using hf),aT4 ht,aU0 hp]at q,q.2⟩
theorem NT(hsum:lS [a0,a1,a2,a3,a4,a5,a6,a7,a8,a9,a10,a11,a12,a13,a14,a15,a16,a17,a18,a19]=0)(hf:bits .and .u16 (256*(a6.toNat:Int)+(a7.toNat:Int)) 32768=0)(ht:(a8.toNat:Int)≠0)(hp:bits .and .u16 (256*(a6.toNat:Int)+(a7.toNat:Int)) 16383=0):f_ Vh 59 #[p_ B] w fun ee w'=>ee=.returned (.agg (rU (256*(a4.toNat:Int)+(a5.toNat:Int)) (a8.toNat:Int) (a9.toNat:Int) (16777216*(a12.toNat:Int)+65536*(a13.toNat:Int)+256*(a14.toNat:Int)+(a15.toNat:Int)) (16777216*(a16.toNat:Int)+65536*(a17.toNat:Int)+256*(a18.toNat:Int)+(a19.toNat:Int)) ⟨(l.take k).toArray⟩))/\w.grownBy w' (some B):=(wE B a0 a1 a2 a3 a4 a5 a6 a7 a8 a9 a10 a11 a12 a13 a14 a15 a16 a17 a18 a19 l w h hs h0 k hn hk hL).mono fun ee _ q=>⟨by have q:=q.1;unfold Gm at q;rwa [aT4 (by simpa using hsum),aT4 (by simpa using hf),aT4 ht,aT4 (by simpa using hp)]at q,q.2⟩
end
end Uw
namespace Uw
open Bs Rd
open gP (jf kT blocks gD gM gI jk iG jE)
theorem je(s:ByteArray)(k:Int)(w:fV)
  (hR:∀u B,iL u B s.data.toList->(∀b o,b<w.heap.size->u.cell? (a_ b o)=w.cell? (a_ b o))->f_ Vh 59 #[p_ B] u fun ee w'=>ee=.panicked (iH k)/\u.grownBy w' (some B)):
  f_ Vh 58 #[.string s,.func (.func 59) #[] #[]] w fun ee w'=>ee=.returned (.tuple #[.agg zU_,Vb Vg k])/\gm w.heap.size w w':=by
 have hmf:=hmf_;have HR:=M0 hR;clear hR;go_enter_defers func58,ntmps58
 go_wp2_with fail;refine on_ (HR _ _ (iG _ _ s (by simp)) (fun b o hb=>b3_.cell (p:=(a_ b o)) hb)) fun w1 g1=>?_;obtain⟨hr,he⟩:=blocks g1 rfl;refine aZ4 (f:=103) (args:=#[p_ (w.heap.size+1)]) (by simp) (by simp[go_sem]) ?_;refine(jf func103 (by kernel_rfl) (by kernel_rfl) (by kernel_rfl) (a_ (w.heap.size+1) 0) 0 k [] _ (aT8 he) (aW3 he)).mono ?_;rintro e u' w'' ⟨rfl,rfl,rfl⟩;exact⟨_,aL results58 rfl rfl hr he (fun u hu=>ae u _ _ _ _ _ _ hu underlying59 rfl (by kernel_rfl)),rfl,(jk g1 b3_ (by omega)).setCell (by simp) _⟩
theorem nK(s:ByteArray)(a0 a1 a2 a3 a4:Int)(a5:ByteArray)(w:fV)
  (hR:∀u B,iL u B s.data.toList->(∀b o,b<w.heap.size->u.cell? (a_ b o)=w.cell? (a_ b o))->f_ Vh 59 #[p_ B] u fun ee w'=>ee=.returned (.agg (rU a0 a1 a2 a3 a4 a5))/\u.grownBy w' (some B)):
  f_ Vh 58 #[.string s,.func (.func 59) #[] #[]] w fun ee w'=>ee=.returned (.tuple #[.agg (rU a0 a1 a2 a3 a4 a5),Vb Vg 0])/\gm w.heap.size w w':=by
 have hmf:=hmf_;have HR:=M0 hR;clear hR;go_enter_defers func58,ntmps58
 go_wp2_with fail;refine on_ (HR _ _ (iG _ _ s (by simp)) (fun b o hb=>b3_.cell (p:=(a_ b o)) hb)) fun w1 g1=>?_;obtain⟨hr,he⟩:=blocks g1 rfl;have HB:=M0 (jk g1 b3_ (by omega));have hc:=fun cs=>aT8 ((af w1 w.heap.size _ cs (by omega)).trans he);have hf:=fun cs=>aW3 ((af w1 w.heap.size _ cs (by omega)).trans he);go_wp2_with (refine V4 rfl 59 (.tmp 4) (.tmp 11) rfl w.heap.size _ rfl rfl 59 _ hr (by kernel_rfl) (by kernel_rfl) (by kernel_rfl) ?_);refine aZ4 (f:=103) (args:=#[p_ (w.heap.size+1)]) (by simp) (by simp[go_sem]) ?_;refine(kT func103 (by kernel_rfl) (by kernel_rfl) (by kernel_rfl) (a_ (w.heap.size+1) 0) _).mono ?_;rintro e u' w'' ⟨rfl,rfl,rfl⟩;exact⟨_,aQ results58 rfl rfl hr he (fun u hu=>ae u _ _ _ _ _ _ hu underlying59 rfl (by kernel_rfl)),rfl,(aD HB (aS5 _) _).setCell (by simp) _⟩
theorem iU(s:ByteArray)(a0 a1 a2 a3 a4:Int)(a5:ByteArray)(k:Int)(w:fV)
  (hR:∀u:fV,f_ Vh 58 #[.string s,.func (.func 59) #[] #[]] u fun ee w'=>ee=.returned (.tuple #[.agg (rU a0 a1 a2 a3 a4 a5),Vb Vg k])/\gm u.heap.size u w'):
  f_ Vh 34 #[.string s] w fun ee w'=>ee=.returned (.tuple #[.agg (rU a0 a1 a2 a3 a4 a5),Vb Vg k])/\gm w.heap.size w w':=by
 have HR:=M0 hR;clear hR;go_enter func34,ntmps34;go_wp2_with fail;refine on_ (HR _) fun w1 hb=>?_;have hr:=(hb.block _ (by simp)).trans (aS6 w _);go_wp2_with (refine V4 rfl 59 (.tmp 2) (.tmp 6) rfl w.heap.size _ rfl rfl 59 _ hr (by kernel_rfl) (by kernel_rfl) (by kernel_rfl) ?_);exact aC results34 rfl rfl rfl hr (fun u hu=>ae u _ _ _ _ _ _ hu underlying59 rfl (by kernel_rfl)) (fun q=>⟨rfl,q⟩) b1_ hb (aS5 _)
theorem Xu(s:ByteArray)(a0 a1 a2 a3 a4:Int)(a5:ByteArray)(k:Int)(w:fV)
  (hR:∀u:fV,f_ Vh 34 #[.string s] u fun ee w'=>ee=.returned (.tuple #[.agg (rU a0 a1 a2 a3 a4 a5),Vb Vg k])/\gm u.heap.size u w'):
  f_ Vh 20 #[.string s] w fun ee w'=>ee=.returned (.tuple #[.agg (rU a0 a1 a2 a3 a4 a5),Vb Vg k])/\gm w.heap.size w w':=by
 have HR:=M0 hR;clear hR;go_enter func20,ntmps20;go_wp2_with fail;refine on_ (HR _) fun w1 hb=>?_;have hr:=(hb.block _ (by simp)).trans (aS6 w _);go_wp2_with (refine V4 rfl 59 (.tmp 2) (.tmp 6) rfl w.heap.size _ rfl rfl 59 _ hr (by kernel_rfl) (by kernel_rfl) (by kernel_rfl) ?_);exact aC results20 rfl rfl rfl hr (fun u hu=>ae u _ _ _ _ _ _ hu underlying59 rfl (by kernel_rfl)) (fun q=>⟨rfl,q⟩) b1_ hb (aS5 _)
end Uw
end Go.Proofs.YtdgacidndknceaaGreatDoor
