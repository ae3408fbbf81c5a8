import Derived.Test.YtdgacidndknceaaGreatDoorMg02
import Derived.Laws.AppendOwnNone
import Derived.Laws.Rows
import Derived.Lib.Bytealg
import Derived.Lib.FrozenHead
import Derived.Lib.OwnKind
import Derived.Lib.SlicesCompact
set_option linter.all false
set_option maxHeartbeats 8000000
set_option maxRecDepth 10000
open Go.ChangeShapes Go.WideShapes Go.ChangeAt Go.RowKit
open Go renaming World → fV, Calls → f_
open Go.RowKit renaming Below → gm
open Go.Proofs.Tryz renaming prog → Vh
open Go.Proofs.Tryz
namespace Go.Proofs.YtdgacidndknceaaGreatDoor
namespace Tf
def D9(c:UInt8):Bool:=decide (33<=c.toNat/\c.toNat<=126)
def iM(l:List UInt8):Bool:= !l.isEmpty && l.all D9
def DZ(c:UInt8):UInt8:=if 65<=c.toNat/\c.toNat<=90 then UInt8.ofNat (c.toNat+32)else c
def pg(l:List UInt8):List UInt8:=l.map DZ
theorem mE(l:List UInt8):(pg l).length=l.length:=by simp[pg]
theorem vN(c:UInt8):(DZ c).toNat=if 65<=c.toNat/\c.toNat<=90 then c.toNat+32 else c.toNat:=by
 unfold DZ
 split
 ·rw[bA5 (by show _<256;omega)]
 rfl
abbrev Fd:=List UInt8×List UInt8
abbrev pO:=List Fd
def Uu(f:Fd):List UInt8:=f.1++ [0]++(f.2++ [0])
def nW(fs:pO):List UInt8:=fs.flatMap Uu
theorem QV(fs:pO)(k:Nat)(h:k<fs.length):nW (fs.take (k+1))=nW (fs.take k)++Uu fs[k]:=by
 rw[nW,bo8 h,bs9];simp[nW]
theorem SF(fs:pO)(k:Nat):(nW (fs.take k)).length<=(nW fs).length:=by
 have e:nW fs=nW (fs.take k)++nW (fs.drop k):=by
  rw[nW,nW,nW,<-bs9,bs6]
 rw[e,bn6];omega
def lF(fs:pO):Nat:=fs.length+(fs.map fun f=>f.1.length+f.2.length).sum
theorem Qo(fs:pO):(nW fs).length<=2*lF fs:=by
 induction fs with
 |nil=>simp[nW,lF]
 |cons f r ih=>
  simp only[nW,lF,Uu,bu9,bn6,bn5,bp6,bv0,bB7]at ih ⊢;omega
theorem Et(fs:pO)(k:Nat)(h:k<fs.length):lF (fs.take (k+1))=lF (fs.take k)+1+(fs[k].1.length+fs[k].2.length):=by
 simp only[lF,bo8 h,bv7,bC9,bn6,bn5,bp6,bv0,bA2,bB7,List.sum_nil];omega
theorem bG6(fs:pO)(k:Nat):lF (fs.take k)+(fs.length-k)<=lF fs:=by
 have q:lF (fs.take k++fs.drop k)=lF (fs.take k)+lF (fs.drop k):=by
  simp only[lF,bv7,bC9,bn6];omega
 rw[bs6]at q;have h:(fs.drop k).length<=lF (fs.drop k):=by unfold lF;omega
 rw[bq8]at h;omega
theorem JR(fs:pO)(k:Nat):lF (fs.take k)<=lF fs:=by
 have:=bG6 fs k;omega
theorem Ro(fs:pO)(k:Nat)(h:k<fs.length):fs[k].1.length+fs[k].2.length<=lF fs:=by
 have:=Et fs k h;have:=JR fs (k+1);omega
def V4(fs:pO):List (List UInt8):=fs.map Prod.fst
theorem Ol(fs:pO):(V4 fs).length=fs.length:=by simp[V4]
theorem FV(fs:pO)(k:Nat):V4 (fs.take k)=(V4 fs).take k:=by simp[V4,List.map_take]
def Qn(f:Fd):Bool:=iM f.1 && (pg f.1==f.1) && iM f.2
def uT:List (List UInt8)->Bool
 |[]=>true
 |x::r=> !r.contains x && uT r
theorem qG(l:List (List UInt8)):uT l=true↔l.Nodup:=by
 induction l with
 |nil=>simp[uT]
 |cons x r ih=>
  simp only[uT,bu7,ih,List.nodup_cons];simp
def Ha(fs:pO)(n:List UInt8):Bool:=fs.any fun f=>f.1==n
theorem Ig(fs:pO)(n:List UInt8):Ha fs n=true↔n ∈ V4 fs:=by
 simp only[Ha,List.any_eq_true,V4,bC4];constructor
 ·rintro ⟨f,hf,h⟩;exact⟨f,hf,by simpa using h⟩
 rintro ⟨f,hf,h⟩;exact⟨f,hf,by simpa using h⟩
def yK(fs:pO):Bool:=fs.all Qn && uT (V4 fs)
theorem GQ{α:Type}(l:List α)(x:α):(l++ [x]).Nodup↔l.Nodup/\x ∉ l:=by
 rw[List.nodup_append];constructor
 ·rintro ⟨h1,_,h3⟩;exact⟨h1,fun hx=>h3 x hx x (by simp) rfl⟩
 rintro ⟨h1,h2⟩;exact⟨h1,by simp,fun a ha b hb=>by simp at hb;subst hb;rintro rfl;exact h2 ha⟩
theorem QG(fs:pO)(k:Nat)(h:k<fs.length):yK (fs.take (k+1))=(yK (fs.take k) && (Qn fs[k] && !Ha (fs.take k) fs[k].1)):=by
 rw[Bool.eq_iff_iff];unfold yK;simp only[bu7,qG,Bool.not_eq_true',<-Bool.not_eq_true,Ig];rw[bo8 h];simp only[V4,bv7,bv0,bA2,GQ,List.all_append,List.all_cons,List.all_nil,Bool.and_true,bu7];constructor
 ·rintro ⟨⟨a,b⟩,c,d⟩;exact⟨⟨a,c⟩,b,d⟩
 rintro ⟨⟨a,c⟩,b,d⟩;exact⟨⟨a,b⟩,c,d⟩
theorem GZ{α:Type}{l:List α}(h:l.Nodup)(k:Nat):(l.take k).Nodup:=h.sublist (List.take_sublist k l)
theorem OM(fs:pO)(k:Nat)(h:yK (fs.take k)=false):yK fs=false:=by
 rw[<-Bool.not_eq_true]at h ⊢;intro hh;apply h;unfold yK at hh ⊢;rw[bu7,qG]at hh ⊢;refine⟨?_,?_⟩
 ·rw[List.all_eq_true]at hh ⊢
  exact fun f hf=>hh.1 f (List.mem_of_mem_take hf)
 rw[FV];exact GZ hh.2 k
theorem Lf(a b c:List UInt8):decide (a<=b)=true->decide (b<=c)=true->decide (a<=c)=true:=by
 simp only[by6];exact List.le_trans
theorem Lb(a b:List UInt8):(decide (a<=b)||decide (b<=a))=true:=by
 simp only[Bool.or_eq_true,by6];exact List.le_total a b
theorem u_(zs:List (List UInt8))(h:zs.Nodup):∀j,j<zs.length->Lib.keeps zs.toArray j=true:=by
 intro j hj
 by_cases e:j=0
 ·simp[Lib.keeps,e]
 apply Lib.keeps_pos;have h1:j-1<zs.length:=by omega
 simp only[List.getElem!_toArray];rw[bE6 zs j hj,bE6 zs (j-1) h1];intro hh;have q:=(bz8.1 h) (j-1) j h1 hj (by omega);exact q hh.symm
theorem bi6{zs:List (List UInt8)}{j:Nat}(hj:j<zs.length)(hk:Lib.keeps zs.toArray j=false):(Lib.compact zs).length<zs.length:=by
 unfold Lib.compact Lib.compactUpTo;rw[bz0];have h1:((List.range zs.length).filter (Lib.keeps zs.toArray)).length<(List.range zs.length).length:=by
  rw[List.length_filter_lt_length_iff_exists];exact⟨j,by simpa using hj,by rw[hk];simp⟩
 simpa using h1
theorem DK{zs:List (List UInt8)}(hs:zs.Pairwise (fun a b=>a<=b))(hk:∀j,j<zs.length->Lib.keeps zs.toArray j=true):zs.Nodup:=by
 rw[List.Nodup,bz8];intro i j hi hj hij e;have h1:i+1<zs.length:=by omega
 have hkk:=hk (i+1) h1;have hle1:zs[i]<=zs[i+1]:=(bz8.1 hs) i (i+1) hi h1 (by omega);have hle2:zs[i+1]<=zs[j]:=by
  by_cases e2:i+1=j
  ·subst e2;exact List.le_refl _
  exact(bz8.1 hs) (i+1) j h1 hj (by omega)
 rw[<-e]at hle2;have heq:zs[i+1]=zs[i]:=List.le_antisymm hle2 hle1;simp only[Lib.keeps,by6]at hkk
 rcases hkk with h0|h0
 ·omega
 apply h0;simp only[List.getElem!_toArray,Nat.add_sub_cancel];rw[bE6 zs (i+1) h1,bE6 zs i hi];exact heq
def XR(l:List (List UInt8)):List (List UInt8):=l.mergeSort fun x y=>decide (x<=y)
theorem Py(l:List (List UInt8)):(XR l).length=l.length:=(List.mergeSort_perm l _).length_eq
theorem OH(l:List (List UInt8)):decide ((Lib.compact (XR l)).length=l.length)=uT l:=by
 have hp:(XR l).Perm l:=List.mergeSort_perm l _;have hs:(XR l).Pairwise (fun a b=>a<=b):=by
  have:=List.pairwise_mergeSort Lf Lb l;exact this.imp (fun h=>by simpa using h)
 have hl:(XR l).length=l.length:=hp.length_eq;rw[Bool.eq_iff_iff,by6,qG];constructor
 ·intro h
  apply hp.nodup_iff.1;apply DK hs;intro j hj
  cases hk:Lib.keeps (XR l).toArray j with
  |true=>rfl
  |false=>have:=bi6 hj hk;omega
 intro h;rw[Lib.compact_all _ (u_ _ (hp.nodup_iff.2 h)),hl]
def cut:List UInt8->Option (List UInt8×List UInt8)
 |[]=>none
 |c::r=>if c=0 then some ([],r)else match cut r with
  |none=>none
  |some (a,b)=>some (c::a,b)
theorem FE{l a b:List UInt8}(h:cut l=some (a,b)):l=a++0::b/\(0:UInt8) ∉ a:=by
 induction l generalizing a b with
 |nil=>simp[cut]at h
 |cons c r ih=>
  rw[cut]at h
  by_cases e:c=0
  ·rw[bp0 e]at h
   simp at h;obtain⟨rfl,rfl⟩:=h;simp[e]
  rw[bo4 e]at h
  cases hc:cut r with
  |none=>rw[hc]at h;simp at h
  |some p=>
   obtain⟨a',b'⟩:=p;rw[hc]at h;simp at h;obtain⟨rfl,rfl⟩:=h;obtain⟨h1,h2⟩:=ih hc;refine⟨by rw[h1];simp,?_⟩;simp only[List.mem_cons,not_or];exact⟨fun h=>e h.symm,h2⟩
theorem Uc(a b:List UInt8)(h:(0:UInt8) ∉ a):cut (a++0::b)=some (a,b):=by
 induction a with
 |nil=>simp[cut]
 |cons c r ih=>
  simp only[List.mem_cons,not_or]at h;rw[bw1,cut,bo4 (fun e=>h.1 e.symm),ih h.2]
theorem uA{l a b:List UInt8}(h:cut l=some (a,b)):l.length=a.length+1+b.length:=by
 obtain⟨h1,_⟩:=FE h;rw[h1];simp;omega
def kV(l:List UInt8):Option pO:=
 if l=[]then some []else
 match h:cut l with
 |none=>none
 |some (n,r)=>if iM n then
   (match h2:cut r with
   |none=>none
   |some (v,r2)=>if iM v then(match kV r2 with
     |none=>none
     |some fs=>some ((pg n,v)::fs))else none)
  else none
termination_by l.length
decreasing_by
 have h1:=uA h
 have h2:=uA h2
 omega
theorem FX:kV []=some []:=by rw[kV,bp0 rfl]
theorem Bi{l:List UInt8}(h0:l≠ [])(h:cut l=none):kV l=none:=by
 rw[kV,bo4 h0]
 split
 ·rfl
 rename_i n r h';rw[h]at h';simp at h'
theorem nR{l n r:List UInt8}(h0:l≠ [])(h:cut l=some (n,r)):kV l=if iM n then(match cut r with
  |none=>none
  |some (v,r2)=>if iM v then(match kV r2 with
   |none=>none
   |some fs=>some ((pg n,v)::fs))else none)else none:=by
 rw[kV,bo4 h0]
 split
 ·rename_i h';rw[h]at h';simp at h'
 rename_i n' r' h'
 rw[h]at h';simp at h';obtain⟨rfl,rfl⟩:=h'
 by_cases hn:iM n=true
 ·rw[bp0 hn,bp0 hn]
  split
  ·rename_i h2;rw[h2]
  rename_i h2;rw[h2]
 rw[bo4 hn,bo4 hn]
theorem Ph{l n r:List UInt8}(h0:l≠ [])(h:cut l=some (n,r))(hn:iM n=false):kV l=none:=by
 rw[nR h0 h,hn];rfl
theorem Bz{l n r:List UInt8}(h0:l≠ [])(h:cut l=some (n,r))(h2:cut r=none):kV l=none:=by
 rw[nR h0 h,h2];split<;>rfl
theorem Pz{l n r v r2:List UInt8}(h0:l≠ [])(h:cut l=some (n,r))(h2:cut r=some (v,r2))(hv:iM v=false):kV l=none:=by
 rw[nR h0 h,h2];simp only[hv]
 split<;>rfl
theorem bf6{l n r v r2:List UInt8}(h0:l≠ [])(h:cut l=some (n,r))(h2:cut r=some (v,r2))(hn:iM n=true)(hv:iM v=true):kV l=match kV r2 with
  |none=>none
  |some fs=>some ((pg n,v)::fs):=by
 rw[nR h0 h,h2,bp0 hn];simp only[hv,bA3]
structure RH where
 op:Nat
 block:Nat
 text:List UInt8
 data:List UInt8
 fs:pO
def RH.zero:RH:=⟨0,0,[],[],[]⟩
def Qy:List UInt8:=[111,99,116,101,116]
def TU(n:Nat):List UInt8:=[UInt8.ofNat (n/256),UInt8.ofNat n]
def RS(m:RH):Bool:=
 if m.op=1 then iM m.text && yK m.fs else if m.op=6 then yK m.fs else if m.op=5 then !m.text.contains 0 else(m.op==3||m.op==4)
def Mq(m:RH):List UInt8:=
 TU m.op++(if m.op=1 then m.text++ [0]++(Qy++ [0])++nW m.fs else if m.op=6 then nW m.fs else if m.op=3 then TU m.block++m.data else if m.op=5 then TU m.block++(m.text++ [0])else TU m.block)
def UU(m:RH):Nat:=
 if RS m=false then 2 else if m.op=3/\1024<m.data.length then 7 else if 1472<(Mq m).length then 7 else 0
def U7(m:RH):List UInt8:=if UU m=0 then Mq m else []
def Qr(l:List UInt8):Option pO:=match kV l with
 |none=>none
 |some fs=>if uT (V4 fs)then some fs else none
def U5(l:List UInt8):Nat×RH:=
 if l.length<2 then(1,.zero)else
 let op:=(l.getD 0 0).toNat*256+(l.getD 1 0).toNat
 let r:=l.drop 2
 if op=1 then
  match cut r with
  |none=>(2,.zero)
  |some (n,r1)=>if iM n=false then(2,.zero)else match cut r1 with
   |none=>(2,.zero)
   |some (m,r2)=>if pg m≠Qy then(2,.zero)else match Qr r2 with
    |none=>(2,.zero)
    |some fs=>(0,⟨op,0,n,[],fs⟩)
 else if op=6 then match Qr r with
  |none=>(2,.zero)
  |some fs=>(0,⟨op,0,[],[],fs⟩)
 else if op=3∨op=4∨op=5 then
  if r.length<2 then(1,.zero)else
  let bl:=(r.getD 0 0).toNat*256+(r.getD 1 0).toNat
  let q:=r.drop 2
  if op=3 then(if 1024<q.length then(7,.zero)else(0,⟨op,bl,[],q,[]⟩))
  else if op=4 then(if q=[]then(0,⟨op,bl,[],[],[]⟩)else(2,.zero))
  else match cut q with
   |none=>(2,.zero)
   |some (t,q2)=>if q2=[]then(0,⟨op,bl,t,[],[]⟩)else(2,.zero)
 else(2,.zero)
end Tf
namespace Tf
open Bs
theorem gL(l:List UInt8):(⟨l.toArray⟩:ByteArray).size=l.length:=by show l.toArray.size=_;simp
theorem C_(s:ByteArray)(l:List UInt8)(hsl:s.data.toList=l)(k:Nat)(hk:k<l.length)(u:fV):(Instr.index 9 (.string s) (.int .i64 (k:Int))).run Vh u=.ok (.int .u8 (l.getD k 0).toNat) u:=by
 have hz:s.size=l.length:=by rw[<-hsl,bp2];rfl
 have h2:(k:Int)<(s.size:Int):=by omega
 have hk':k<s.size:=by omega
 have h3:s[k]=l.getD k 0:=by
  have hk2:k<s.data.size:=hk';have q:s.data[k]?=l[k]?:=by rw[<-hsl,br1]
  rw[bv2 hk2,bq7 hk]at q;rw[bq5,bq7 hk];exact bp4 q
 simp[Instr.index,bw4 bs8,asIntOf,h2,hk',go_sem,h3]
theorem AR{l:List UInt8}{k:Nat}(h:k<l.length)(h0:(l.take k).all D9=true)(h1:D9 (l.getD k 0)=true):(l.take (k+1)).all D9=true:=by
 rw[bo8 h,List.all_append,h0];rw[bq5,bq7 h]at h1;simpa using h1
theorem DL{l:List UInt8}{k:Nat}(h:k<l.length)(h1:D9 (l.getD k 0)=false):iM l=false:=by
 rw[bq5,bq7 h]at h1;unfold iM;have:l.all D9=false:=by
  rw[<-Bool.not_eq_true,List.all_eq_true];intro hh;have:=hh l[k] (bs4 h);simp at h1;rw[h1]at this;cases this
 rw[this,Bool.and_false]
theorem Lc(s:ByteArray)(l:List UInt8)(hsl:s.data.toList=l):s.toList.isEmpty=l.isEmpty:=by rw[bq0,hsl]
theorem lI(s:ByteArray)(l:List UInt8)(w:fV)(hsl:s.data.toList=l)(hl:l.length<=9223372036854775807):
  f_ Vh 80 #[.string s] w fun e w'=>e=.returned (.bool (iM l))/\w'=w:=by
 have hz:s.size=l.length:=by rw[<-hsl,bp2];rfl
 have hie:=Lc s l hsl;have HIX:=Fe (fun k hk u=>C_ s l hsl k hk u);have HZ:=Fe hz;clear hsl hz;go_enter func80,ntmps80;go_wp2;go_loop [6] (fun i=>∃k:Nat,k<=l.length/\i=.int .i64 k/\Hid ((l.take k).all D9=true)) (fun i=>l.length-(intOf i).toNat)
 case atStart=>exact⟨0,bp3 _,rfl,Fe rfl⟩
 obtain⟨k,hk,rfl,HA⟩:=hrel;have hz:=gB HZ
 by_cases hlt:k<l.length
 ·have x0:=HIX k hlt
  have hlt':(k:Int)<(s.size:Int):=by omega
  have l0:=(l.getD k 0).toNat_lt;have hcd:D9 (l.getD k 0)=decide (33<=(l.getD k 0).toNat/\(l.getD k 0).toNat<=126):=rfl;have HBAD:=Fe (fun h=>DL (l:=l) hlt h);have HOK:=Fe (fun h=>AR (l:=l) hlt HA h);obtain⟨c,hc⟩:=ex_ (l.getD k 0);rw[<-hc]at x0 l0 hcd HBAD HOK;obtain⟨y,hy⟩:∃y:Nat,y=c.toNat:=⟨_,rfl⟩;rw[<-hy]at x0 l0 hcd;have HC:=Fe hcd;clear hc hcd hz
  by_cases h33:y<33
  ·have g0:(y:Int)<33:=by omega
   have HN:Hid (iM l=false):=Fe (HBAD (by rw[gB HC,bw2];omega));clear HBAD HOK hy;go_wp2;go_ret;exact⟨by rw[gB HN];rfl,rfl⟩
  have g0: ¬(y:Int)<33:=by omega
  by_cases h126:126<y
  ·have g1:(126:Int)<(y:Int):=by omega
   have HN:Hid (iM l=false):=Fe (HBAD (by rw[gB HC,bw2];omega));clear HBAD HOK hy;go_wp2;go_ret;exact⟨by rw[gB HN];rfl,rfl⟩
  have g1: ¬(126:Int)<(y:Int):=by omega
  have HN:Hid ((l.take (k+1)).all D9=true):=Fe (HOK (by rw[gB HC,by6];omega));clear HBAD HOK hy;go_wp2;go_round
  case rel=>exact⟨k+1,by omega,by go_num,HN⟩
  simp[intOf];omega
 have hlt': ¬(k:Int)<(s.size:Int):=by omega
 have HN:Hid (iM l= !l.isEmpty):=Fe (by
  have q:=gB HA
  rw[bt6 (by omega)]at q
  unfold iM;rw[q,Bool.and_true])
 clear hz;go_wp2;go_ret;exact⟨by rw[gB HN];rfl,rfl⟩
def Bt(w:fV)(g:Nat)(L:List UInt8):Prop:=
 ∃cur t fz,w.heap[g]?=some (.cells cur t fz)/\(L.length<=fz.1∨fz.2=0)/\∀j (h:j<L.length),cur[j]?=some (.int .u8 L[j].toNat)
theorem Bt.cell{w:fV}{g:Nat}{L:List UInt8}(h:Bt w g L)(j:Nat)(hj:j<L.length):w.cell? (a_ g j)=some (.int .u8 (L.getD j 0).toNat):=by
 obtain⟨cur,t,fz,hg,_,hc⟩:=h;rw[bn0 w g j _ _ _ hg,hc j hj,bq5,bq7 hj];rfl
theorem Bt.free{w:fV}{g:Nat}{L:List UInt8}(h:Bt w g L)(j:Nat)(hj:j<L.length):w.frozen? (a_ g j)=false:=by
 obtain⟨cur,t,fz,hg,hf,hc⟩:=h;obtain⟨lo,hi⟩:=fz;simp only[World.frozen?,hg,Bool.and_eq_false_iff,bw2];simp only at hf;omega
theorem Bt.set{w:fV}{g:Nat}{L:List UInt8}(h:Bt w g L)(j:Nat)(hj:j<L.length)(x:UInt8):Bt (w.setCell (a_ g j) (.int .u8 x.toNat)) g (L.set j x):=by
 obtain⟨cur,t,fz,hg,hf,hc⟩:=h;refine⟨cur.setIfInBounds j (.int .u8 x.toNat),t,fz,?_,by rw[bz9];exact hf,fun i hi=> ?_⟩
 ·rw[bs3 w g j cur t fz _ hg];exact bt2 w g cur _ t _ hg
 rw[bz9]at hi;have hz:j<cur.size:=(bs2.1 (hc j hj)).1;rw[by7]
 by_cases e:j=i
 ·subst e
  rw[bp0 rfl,bp0 hz,List.getElem_set_self]
 rw[bo4 e,hc i hi,List.getElem_set_ne e]
theorem Bt.new(w:fV)(s:ByteArray)(l:List UInt8)(hsl:s.data.toList=l):Bt (w.drew.alloc (.cells (bytesRow s (grownCap w s.size 0 5)) 5 ((bytesRow s (grownCap w s.size 0 5)).size,(bytesRow s (grownCap w s.size 0 5)).size+1))) w.heap.size l:=by
 have hz:s.size=l.length:=by rw[<-hsl,bp2];rfl
 have hge:=grownCap_ge w s.size 0 5;have hrz:(bytesRow s (grownCap w s.size 0 5)).size=grownCap w s.size 0 5:=by
  simp only[bytesRow,Array.size_append,Array.size_map,Array.size_replicate];have:s.data.size=s.size:=rfl;omega
 refine⟨_,_,_,bn3 w.drew _,bo1 ?_,fun j hj=> ?_⟩
 ·show l.length<=(bytesRow s (grownCap w s.size 0 5)).size
  rw[hrz];omega
 have hj2:j<s.data.size:=by show j<s.size;omega
 rw[bytesRow,Array.getElem?_append_left (by rw[Array.size_map];exact hj2),Array.getElem?_map,bv2 hj2];subst hsl;rfl
def nP(l:List UInt8)(k:Nat):List UInt8:=pg (l.take k)++l.drop k
theorem az(l:List UInt8)(k:Nat):(nP l k).length=l.length:=by
 unfold nP;rw[bn6,mE,bp7,bq8];omega
theorem CB(l:List UInt8)(k:Nat)(h:k<l.length):(nP l k).getD k 0=l.getD k 0:=by
 unfold nP;rw[bq5,bu5 (by rw[mE,bp7];omega),mE,bp7,bD0 (by omega),Nat.sub_self,List.getElem?_drop,bC6,bq5]
theorem Aa(l:List UInt8)(k:Nat)(h:k<l.length):(nP l k).set k (DZ (l.getD k 0))=nP l (k+1):=by
 unfold nP;rw[bz6 _ _ (by rw[mE,bp7];omega),mE,bp7,bD0 (by omega),Nat.sub_self,bo8 h,br9 h,bm8];rw[bq5,bq7 h,pg,pg,bv7,bq1];rfl
theorem Ib(l:List UInt8)(k:Nat)(h:k<l.length)(hc:DZ (l.getD k 0)=l.getD k 0):nP l k=nP l (k+1):=by
 have q:=Aa l k h;rw[hc]at q;rw[<-q];have hz:k<(nP l k).length:=by rw[az];exact h
 have e:=CB l k h;rw[bq5,bq7 hz]at e;simp only[Option.getD_some]at e;rw[<-e,List.set_getElem_self]
theorem GI(l:List UInt8):nP l 0=l:=by simp[nP,pg]
theorem KD(l:List UInt8):nP l l.length=pg l:=by simp[nP]
theorem xB(s:ByteArray)(l:List UInt8)(w:fV)(hsl:s.data.toList=l)(hl:l.length<=1099511627776):
  f_ Vh 198 #[.string s] w fun e w'=>e=.returned (.string ⟨(pg l).toArray⟩)/\gm w.heap.size w w':=by
 have hz:s.size=l.length:=by rw[<-hsl,bp2];rfl
 have hcv:=fun(w:fV)=>run_bytes_of_string (P:=Vh) w 9 73 5 s bs8 br3 bv4;have HB0:=Fe (Bt.new w s l hsl);have HZ:=Fe hz;clear hsl;go_enter func198,ntmps198;rw[hz]at HB0;go_wp2;go_loopw [10] (fun i wr=>∃k:Nat,k<=l.length/\i=.int .i64 k/\Hid (Bt wr w.heap.size (nP l k))/\Hid (gm w.heap.size w wr)) (fun i _=>l.length-(intOf i).toNat)
 case atStart=>exact⟨0,bp3 _,rfl,Fe (by rw[GI];exact HB0),Fe (b1_.drew)⟩
 obtain⟨k,hk,rfl,HB,HW⟩:=hrel;rename fV=>wr
 by_cases hlt:k<l.length
 ·have c0:=HB.cell k (by rw[az];exact hlt)
  have f0:=HB.free k (by rw[az];exact hlt);rw[CB l k hlt]at c0;have HS:=Fe (fun x=>HB.set k (by rw[az];exact hlt) x);have hlt':(k:Int)<(l.length:Int):=by omega
  have HN:=Fe (Aa l k hlt);have HM:=Fe (Ib l k hlt);have hlc:=vN (l.getD k 0);obtain⟨c,hc⟩:=ex_ (l.getD k 0);rw[<-hc]at c0 HN HM hlc;have l0:=c.toNat_lt;obtain⟨y,hy⟩:∃y:Nat,y=c.toNat:=⟨_,rfl⟩;rw[<-hy]at c0 l0 hlc;have HLC:=Fe hlc;have HY:=Fe hy;clear hc hy hlc
  by_cases hup:65<=y/\y<=90
  ·obtain⟨g0,g1⟩:=hup
   have g0':(65:Int)<=(y:Int):=by omega
   have g1':(y:Int)<=90:=by omega
   have q1:IntKind.u8.wrap ((y:Int)-65)=(y:Int)-65:=by rw[IntKind.wrap_u8];omega
   have q2:IntKind.u8.wrap ((y:Int)-65+97)=((DZ c).toNat:Int):=by rw[IntKind.wrap_u8,gB HLC,bp0 ⟨g0,g1⟩];omega
   go_wp2;go_roundw
   case rel=>exact⟨k+1,by omega,by go_num,Fe (by rw[<-gB HN];exact HS _),Fe (HW.setCell (bn7 _) _)⟩
   simp[intOf];omega
  have HE:Hid (nP l k=nP l (k+1)):=Fe (HM (by
   apply bB5.1
   rw[gB HLC,bo4 hup,gB HY]))
  by_cases g0:65<=y
  ·have g0':(65:Int)<=(y:Int):=by omega
   have g1': ¬(y:Int)<=90:=by omega
   clear hup;go_wp2;go_roundw
   case rel=>exact⟨k+1,by omega,by go_num,Fe (by rw[<-gB HE];exact HB),HW⟩
   simp[intOf];omega
  have g0': ¬(65:Int)<=(y:Int):=by omega
  clear hup;go_wp2;go_roundw
  case rel=>exact⟨k+1,by omega,by go_num,Fe (by rw[<-gB HE];exact HB),HW⟩
  simp[intOf];omega
 have e:k=l.length:=by omega
 have HF:Hid (Bt wr w.heap.size (pg l)):=Fe (by rw[<-KD,<-e];exact HB);have hlt': ¬(k:Int)<(l.length:Int):=by omega
 have hcb:=bv8 (P:=Vh) wr 73 9 5 (a_ w.heap.size 0) (grownCap w l.length 0 5) (pg l) br3 bv4 bs8 (fun j hj=>by
  rw[jB,HF.cell j hj,bq5,bq7 hj];rfl)
 rw[mE]at hcb;clear e hcv;go_wp2;go_ret;exact⟨rfl,HW⟩
end Tf
namespace Dh
open Bs
open Rd (iL iH)
theorem KO(os:gU)(c:UInt8)(k:Nat)(h:k<os.length):data (os.take (k+1)) c=data (os.take k) c++(if os[k].1=c then os[k].2 else []):=by
 rw[bo8 h];simp only[data,List.filter_append,bs9];congr 1
 by_cases e:os[k].1=c
 ·simp[e]
 have:(os[k].1==c)=false:=by simpa using e
 simp[e,bA9]
theorem NM(os:gU)(c:UInt8)(k:Nat)(h:k<os.length):has (os.take (k+1)) c=(has (os.take k) c||os[k].1==c):=by
 rw[bo8 h];simp only[has,bE4,bz2,aj,bE2]
theorem drop_take(os:gU)(c:UInt8)(k:Nat)(h:k<os.length):drop (os.take (k+1)) c=drop (os.take k) c++(if os[k].1=c then []else [os[k]]):=by
 rw[bo8 h];simp only[drop,List.filter_append];congr 1
 by_cases e:os[k].1=c
 ·simp[e]
 simp[e,bA9]
theorem vL(os:gU)(c:UInt8):(data os c).length<=heavy os:=by
 induction os with
 |nil=>simp[data,heavy]
 |cons o r ih=>
  rw[qj,bn6];simp only[heavy,bn5,bv0,bB7]at ih ⊢;have hif:(if o.1=c then o.2 else []).length<=o.2.length:=by split<;>simp
  omega
theorem toNat_eq(a b:UInt8):(((a.toNat:Nat):Int)==((b.toNat:Nat):Int))=decide (a=b):=by
 by_cases h:a=b
 ·subst h;simp
 have:a.toNat≠b.toNat:=fun e=>h (bB5.1 e);simp[h];omega
theorem nN(a:Option Addr)(cap:Nat)(os:gU)(c:UInt8)(w:fV)(hA:At w a os)(hl:heavy os<=268435456):
  f_ Vh 228 #[.slice a os.length cap,.int .u8 c.toNat] w fun e w'=>
   e=.returned (.tuple #[.string ⟨(data os c).toArray⟩,.bool (has os c)])/\gm w.heap.size w w':=by
 obtain⟨i0,hi,hz0,hz1,hz2⟩:=ol tu;have hlen:os.length<=heavy os:=by unfold heavy;omega
 have HA:=Fe hA;clear hA;go_enter func228,ntmps228;go_wp2;go_loopw [6,7,12] (fun v6 v7 i wr=>∃k:Nat,k<=os.length/\i=.int .i64 k/\v7=.bool (has (os.take k) c)/\Hid (wr.ownsRow w.heap.size 5 1 v6 (data (os.take k) c).length (gY (data (os.take k) c)))/\Hid (gm w.heap.size w wr)) (fun _ _ i _=>os.length-(intOf i).toNat)
 case atStart=>exact⟨0,bp3 _,rfl,rfl,Fe (bq3 _ _ _ _),Fe (bn9 _ _)⟩
 obtain⟨k,hk,rfl,rfl,HO,HW⟩:=hrel;rename fV=>wr;have hdl:=vL (os.take k) c;have hkl:=vQ os k
 by_cases hlt:k<os.length
 ·obtain⟨ad,rfl,c0,c1⟩:=HA.below HW (bn7 _) k hlt
  obtain⟨oc,od,hcd⟩:∃x y,os[k]=(x,y):=⟨_,_,rfl⟩;have ht:=uQ os k hlt;have htl:=vQ os (k+1);have hdt:=KO os c k hlt;have hht:=NM os c k hlt;rw[hcd]at c0 c1 ht hdt hht;simp only at c0 c1 ht hdt hht;have HD:=Fe hdt;have HH:=Fe hht;have hwz:=HW.size;obtain⟨s,hS⟩:∃s:ByteArray,s=⟨od.toArray⟩:=⟨_,rfl⟩;have hsz:s.size=od.length:=by rw[hS];exact gL od
  have hst:s.data.toList=od:=by rw[hS]
  rw[<-hS]at c1;have HS:=Fe hst;clear hcd hdt hht hS hst
  by_cases e:oc=c
  ·have q:(((oc.toNat:Nat):Int)==((c.toNat:Nat):Int))=true:=by rw[toNat_eq];simpa using e
   rw[bp0 e]at HD;have HHT:Hid (has (os.take (k+1)) c=true):=Fe (by rw[gB HH];simp[e]);clear HH e;go_wp2_with (at_builtin;refine Lib.wpList_append_own_string _ rfl (.tmp 20) (.tmp 22) 73 9 rfl w.heap.size 5 i0 br3 bs8 hi hz0 hz1 hz2 _ _ _ rfl (HO.alloc _) s rfl ?h63 ?hby ?hba ?_)
   case h63=>simp only[maxLen];omega
   case hby=>omega
   case hba=>simp;omega
   intro v' w1 hown hg _;have hnew:∀x,Value.ownBlock _=some x->w.heap.size<=x:=fun x hx=>(HO.lt x hx).1;have hB1:gm w.heap.size w w1:=(HW.alloc hwz _).grown hg (by simp;omega) hnew;have hO1:w1.ownsRow w.heap.size 5 1 v' (data (os.take (k+1)) c).length (gY (data (os.take (k+1)) c)):=by
    have e8:gY od=Lib.strCells s:=by rw[<-gB HS];rfl
    rw[gB HD,bn6,pY,e8];exact hown
   have O1:=Fe hO1;have B1:=Fe hB1;clear hown hg hnew hB1 hO1;go_wp2;go_roundw
   case rel=>exact⟨k+1,by omega,by go_num,by rw[gB HHT],O1,B1⟩
   simp[intOf];omega
  have q:(((oc.toNat:Nat):Int)==((c.toNat:Nat):Int))=false:=by rw[toNat_eq];simpa using e
  rw[bo4 e,br8]at HD;have HHT:Hid (has (os.take (k+1)) c=has (os.take k) c):=Fe (by rw[gB HH];simp[e]);clear HH e;go_wp2;go_roundw
  case rel=>exact⟨k+1,by omega,by go_num,by rw[gB HHT],Fe (by rw[gB HD];exact HO.alloc _),Fe (HW.alloc hwz _)⟩
  simp[intOf];omega
 have e:k=os.length:=by omega
 subst e;rw[br0]at HO;have HT:Hid (has (os.take os.length) c=has os c):=Fe (by rw[br0]);have hcv:=oL wr _ _ _ HO;obtain⟨ao,cp,hv⟩:=ib HO;subst hv;go_wp2;go_ret2;exact⟨by rw[gB HT];rfl,HW⟩
theorem Ea(a:Option Addr)(cap:Nat)(os:gU)(c:UInt8)(w:fV)(hA:At w a os)(hl:heavy os<=268435456):
  f_ Vh 229 #[.slice a os.length cap,.int .u8 c.toNat] w fun e w'=>
   ∃v,e=.returned v/\w'.ownsRow w.heap.size 138 2 v (drop os c).length (gT (drop os c))/\gm w.heap.size w w':=by
 obtain⟨i0,hi,hz0,hz1,hz2⟩:=ol lM;have hlen:os.length<=heavy os:=by unfold heavy;omega
 have HA:=Fe hA;clear hA;go_enter func229,ntmps229;go_wp2;go_loopw [5,10] (fun v5 i wr=>∃k:Nat,k<=os.length/\i=.int .i64 k/\(drop (os.take k) c).length<=k/\Hid (wr.ownsRow w.heap.size 138 2 v5 (drop (os.take k) c).length (gT (drop (os.take k) c)))/\Hid (gm w.heap.size w wr)) (fun _ i _=>os.length-(intOf i).toNat)
 case atStart=>exact⟨0,bp3 _,rfl,bn7 _,Fe (bq3 _ _ _ _),Fe (bn9 _ _)⟩
 obtain⟨k,hk,rfl,hdk,HO,HW⟩:=hrel;rename fV=>wr
 by_cases hlt:k<os.length
 ·obtain⟨ad,rfl,c0,c1⟩:=HA.below HW (bn7 _) k hlt
  obtain⟨oc,od,hcd⟩:∃x y,os[k]=(x,y):=⟨_,_,rfl⟩;have hdt:=drop_take os c k hlt;rw[hcd]at c0 c1 hdt;simp only at c0 c1 hdt;have HD:=Fe hdt;have hwz:=HW.size;clear hcd hdt
  by_cases e:oc=c
  ·have q:(((oc.toNat:Nat):Int)!=((c.toNat:Nat):Int))=false:=by rw[bne,toNat_eq];simpa using e
   rw[bp0 e,br8]at HD;clear e;go_wp2;go_roundw
   case rel=>exact⟨k+1,by omega,by go_num,by rw[gB HD];omega,Fe (by rw[gB HD];exact HO.alloc _),Fe (HW.alloc hwz _)⟩
   simp[intOf];omega
  have q:(((oc.toNat:Nat):Int)!=((c.toNat:Nat):Int))=true:=by rw[bne,toNat_eq];simpa using e
  rw[bo4 e]at HD;clear e;go_wp2_with (at_builtin;refine br5 _ rfl (.tmp 18) (.tmp 20) 200 rfl w.heap.size 138 i0 (.agg #[.int .u8 0,.string ⟨#[]⟩]) 2 24 bv1 hi hz0 hz1 hz2 rfl (by decide) _ _ _ rfl ((HO.alloc _).alloc _) (a_ (wr.heap.size+1) 0) 1 1 [.int .u8 oc.toNat,.string ⟨od.toArray⟩] rfl rfl ?c1 ?one ?h63 ?hby ?hba ?_);case c1=>
   have q:=iW (wr.alloc (.cells #[.int .u8 oc.toNat,.string ⟨od.toArray⟩] 138)) [.int .u8 oc.toNat,.string ⟨od.toArray⟩] 138;simpa using q
  case one=>intro u hu;simp at hu;rcases hu with rfl|rfl<;>rfl
  case h63=>simp only[maxLen];omega
  case hby=>omega
  case hba=>simp;omega
  intro v' w1 hown hg _;have hnew:∀x,Value.ownBlock _=some x->w.heap.size<=x:=fun x hx=>(HO.lt x hx).1;have hB1:gm w.heap.size w w1:=((HW.alloc hwz _).alloc (by simp;omega) _).grown hg (by simp;omega) hnew;have hO1:w1.ownsRow w.heap.size 138 2 v' (drop (os.take (k+1)) c).length (gT (drop (os.take (k+1)) c)):=by
   rw[gB HD,bn6,iV];exact hown
  have O1:=Fe hO1;have B1:=Fe hB1;clear hown hg hnew hB1 hO1;go_wp2;go_roundw
  case rel=>exact⟨k+1,by omega,by go_num,by rw[gB HD,bn6,bn5,bp6];omega,O1,B1⟩
  simp[intOf];omega
 have e:k=os.length:=by omega
 subst e;rw[br0]at HO;obtain⟨ao,cp,hv⟩:=ib HO;subst hv;go_wp2;go_ret;exact⟨_,rfl,HO,HW⟩
end Dh
namespace Dh
open Bs
def Ka(f:Nat->Value):Array Value:=((List.range 256).map f).toArray
def o_(w:fV)(b:Nat)(t:TypeId)(f:Nat->Value):Prop:=w.heap[b]?=some (.cells (Ka f) t (0,0))
theorem o_.cell{w:fV}{b:Nat}{t:TypeId}{f:Nat->Value}(h:o_ w b t f)(k:Nat)(hk:k<256):w.cell? (a_ b k)=some (f k):=by
 rw[bn0 w b k _ _ _ h];simp[Ka,hk]
theorem o_.free{w:fV}{b:Nat}{t:TypeId}{f:Nat->Value}(h:o_ w b t f)(k:Nat):w.frozen? (a_ b k)=false:=bw3 w b k _ _ h
theorem o_.set{w:fV}{b:Nat}{t:TypeId}{f:Nat->Value}(h:o_ w b t f)(k:Nat)(hk:k<256)(v:Value):o_ (w.setCell (a_ b k) v) b t (fun j=>if j=k then v else f j):=by
 have q:=bs5 w b k _ t v h;unfold o_;rw[q];congr 2
 apply bD1;simp only[Ka,Array.set!_eq_setIfInBounds,bz5];apply bA4;intro i;rw[List.getElem?_set]
 by_cases hi:i<256
 ·by_cases e:k=i
  ·subst e;simp[hk]
  have e': ¬i=k:=fun h=>e h.symm;simp[e,e',hi]
 by_cases e:k=i
 ·omega
 simp[e,hi]
theorem o_.kept{w w':fV}{b:Nat}{t:TypeId}{f:Nat->Value}(h:o_ w b t f)(hb:w'.heap[b]?=w.heap[b]?):o_ w' b t f:=hb.trans h
theorem o_.lt{w:fV}{b:Nat}{t:TypeId}{f:Nat->Value}(h:o_ w b t f):b<w.heap.size:=bo2 h
theorem o_.same{w:fV}{b:Nat}{t:TypeId}{f g:Nat->Value}(h:o_ w b t f)(e:∀j,j<256->f j=g j):o_ w b t g:=by
 unfold o_ at h ⊢;rw[h];congr 2
 unfold Ka;congr 1
 apply bA8;intro j hj;exact e j (by simpa using hj)
structure Jl (ps:List Pc) (cs:List UInt8):Prop where
 nodup:cs.Nodup
 mem:∀x,x ∈ cs↔has ps x=true
 all:gW [] ps=cs.map fun c=>(c,data ps c)
theorem Jl.nil:Jl [] []:=⟨List.nodup_nil,fun x=>by simp[has],rfl⟩
theorem qx(ps:List Pc)(p:Pc)(c:UInt8):data (ps++ [p]) c=data ps c++(if p.1=c then p.2 else []):=by
 simp only[data,List.filter_append,bs9];congr 1
 by_cases e:p.1=c
 ·simp[e]
 simp[e,bA9]
theorem sZ(ps:List Pc)(p:Pc)(c:UInt8):has (ps++ [p]) c=(has ps c||p.1==c):=by
 simp only[has,bE4,bz2,aj,bE2]
theorem QU(cs:List UInt8)(f g:UInt8->List UInt8)(x:UInt8)(d:List UInt8)(hn:cs.Nodup)(hx:x ∈ cs)(hg:∀c,g c=if x=c then f c++d else f c):
  add (cs.map fun c=>(c,f c)) (x,d)=cs.map fun c=>(c,g c):=by
 induction cs with
 |nil=>cases hx
 |cons a r ih=>
  rw[List.nodup_cons]at hn;simp only[bv0,add]
  by_cases e:a=x
  ·subst e
   rw[bp0 rfl,hg a,bp0 rfl];congr 1
   apply bA8;intro c hc;have: ¬a=c:=fun e=>hn.1 (e▸hc);rw[hg c,bo4 this]
  rw[bo4 e,hg a,bo4 (fun h=>e h.symm)];congr 1
  exact ih hn.2 ((List.mem_cons.1 hx).resolve_left (fun h=>e h.symm))
theorem O8(cs:List UInt8)(f g:UInt8->List UInt8)(x:UInt8)(d:List UInt8)(hx: ¬x ∈ cs)(hg:∀c,¬x=c->g c=f c)(hd:g x=d):
  add (cs.map fun c=>(c,f c)) (x,d)=(cs++ [x]).map fun c=>(c,g c):=by
 induction cs with
 |nil=>simp[add,hd]
 |cons a r ih=>
  have ha: ¬a=x:=fun e=>hx (by simp[e]);simp only[bv0,add,bw1];rw[bo4 ha,hg a (fun h=>ha h.symm)];congr 1
  exact ih (fun h=>hx (List.mem_cons_of_mem _ h))
theorem Jl.step{ps:List Pc}{cs:List UInt8}(h:Jl ps cs)(x:UInt8)(d:List UInt8)(hx:has ps x=true):Jl (ps++ [(x,d)]) cs:=by
 refine⟨h.nodup,fun y=> ?_,?_⟩
 ·rw[sZ,h.mem y]
  by_cases e:x=y
  ·subst e;simp[hx]
  simp[e]
 rw[j_,h.all];exact QU cs (data ps) (data (ps++ [(x,d)])) x d h.nodup ((h.mem x).2 hx) (fun c=>by
  rw[qx]
  by_cases e:x=c<;>simp[e])
theorem Jl.more{ps:List Pc}{cs:List UInt8}(h:Jl ps cs)(x:UInt8)(d:List UInt8)(hx:has ps x=false):Jl (ps++ [(x,d)]) (cs++ [x]):=by
 have hxc: ¬x ∈ cs:=fun e=>by rw[(h.mem x).1 e]at hx;cases hx
 refine⟨?_,fun y=> ?_,?_⟩
 ·rw[List.nodup_append]
  refine⟨h.nodup,by simp,fun a ha b hb=> ?_⟩;simp at hb;subst hb;exact fun e=>hxc (e▸ha)
 ·rw[sZ,List.mem_append,h.mem y]
  by_cases e:x=y
  ·subst e;simp
  have: ¬y=x:=fun h=>e h.symm;simp[e,this]
 rw[j_,h.all];exact O8 cs (data ps) (data (ps++ [(x,d)])) x d hxc (fun c hc=>by rw[qx];simp[hc]) (by rw[qx,aF7 ps x hx];simp)
theorem KH{P:Program}{w w':fV}{v v':Value}{base n:Nat}{xs:List Value}{t u ty e:TypeId}{i:TypeInfo}{s:ByteArray}
  (ht:P.underlying t=some (.slice e)) (hu:P.underlying u=some .string) (hi:P.info? e=some i) (hz:i.zero=some (.int .u8 0)) (hsize:i.size=1) (hby:i.bytes=1)
  (hown:w.ownsRow base e 1 v n xs) (h63:n+s.size<=maxLen) (hbytes:n+s.size<=140737488355328)
  (hr:(Builtin.append_ #[t,u] ty #[v,.string s]).run P w=.ok v' w'):v'.ownBlock=v.ownBlock∨∀g,v'.ownBlock=some g->w.heap.size<=g:=by
 have hcl:=fun g hg=>hown.cells (g:=g) hg;have hxl:=hown.1
 rcases hown.2 with⟨rfl,hn⟩|⟨g,cap,cur,rfl,_,hg,hnc,hcm,hcs,_⟩
 ·right
  obtain⟨v2,w2,hr2,h2,_,_⟩:=bC7 (P:=P) w w.heap.size t u ty e i ht hu hi hz hsize hby (.slice none 0 0) 0 [] (bq3 _ _ _ _) s (by omega) (by omega) (bn7 _);rw[hr]at hr2
  cases hr2
  exact fun g hg=>(h2.lt g hg).1
 by_cases hroom:n+s.size<=cap
 ·left
  have hr2:=Lib.run_append_room_string (P:=P) w t u ty e i ht hu hi hsize g n cap cur hg s hroom (by rw[hcs];omega);rw[hr]at hr2
  cases hr2
  rfl
 right
 unfold maxLen at h63;have hr2:=Lib.run_append_grow_string (P:=P) w t u ty e i (.int .u8 0) ht hu hi hz (a_ g 0) n cap xs (by rw[hsize];simpa using hxl) (hcl g rfl) s (by omega) (by omega) (by rw[hby];exact growslice_fits (by omega) (by omega));rw[hr]at hr2
 cases hr2
 intro g' hg';simp[Value.ownBlock]at hg';omega
theorem qR{P:Program}{ops:Array Oper}{o:Oper}{a:Act}{w:fV}{K:Act->fV->Prop}{Q:Exit->Act->fV->Prop}{E:Prop}
  (hg:o.guard=none) (sl x:Operand) (t u:TypeId) (ho:o.op=.call {callee:=.builtin .append,args:=#[sl,x],argTypes:=#[t,u]})
  (base:Nat) (e:TypeId) (i:TypeInfo) (ht:P.underlying t=some (.slice e)) (hu:P.underlying u=some .string) (hi:P.info? e=some i) (hz:i.zero=some (.int .u8 0))
  (hsize:i.size=1) (hby:i.bytes=1)
  (v:Value) (n:Nat) (xs:List Value) (hs:a.eval sl=v) (hown:w.ownsRow base e 1 v n xs) (s:ByteArray) (hx:a.eval x=.string s)
  (h63:n+s.size<=maxLen) (hbytes:n+s.size<=140737488355328) (hbase:base<=w.heap.size)
  (hK:∀v' w',w'.ownsRow base e 1 v' (n+s.size) (xs++Lib.strCells s)->w.grownBy w' v.ownBlock->(v'.ownBlock=v.ownBlock∨∀g,v'.ownBlock=some g->w.heap.size<=g)->K (a.put o.dst v') w'):
  if Region.wanted o (yielded ops a.tmps)=true then Oper.wp P o a w K Q else E:=by
 have hw:Region.wanted o (yielded ops a.tmps)=true:=by simp[Region.wanted,hg]
 rw[bp0 hw];obtain⟨v',w',hr,h2,h3,h4⟩:=bC7 (P:=P) w base t u o.type e i ht hu hi hz hsize hby v n xs hown s h63 hbytes hbase;unfold Oper.wp execOp;simp only[ho,resolve,invoke,builtin,by1,bB2,bw5,List.map_toArray,bv0,bA2,hs,hx,hr];exact hK v' w' h2 h3 (KH ht hu hi hz hsize hby hown h63 hbytes hr)
end Dh
namespace Rd
open Bs
theorem aD{b g:Nat}{a w:fV}(h:gm b a w)(hg:b<=g)(cs:Array Value):gm b a (w.setRow g cs):=
 ⟨h.os,h.tape,h.output,by rw[size_setRow];exact h.size,fun k hk=>(bt0 w g k cs (by omega)).trans (h.block k hk)⟩
theorem aC{fn:Func}{p q:Tmp}{ty:TypeId}(h:fn.results=#[.cell p ty,.tmp q]){a:Act}{g:Nat}{w0 w w1:fV}{cs zs:Array Value}{k:Value}{R:Ending->fV->Prop}
  (hp:a.tmps.getD p undef=(p_ g)) (hq:a.tmps.getD q undef=k) (hd:a.defers=[]) (hr:w1.heap[g]?=some (.cells zs ty (0,0)))
  (hl:∀u:fV,u.heap[g]?=some (.cells cs ty (0,0))->(loadVar ty (a_ g 0)).run Vh u=.ok (.agg cs) u)
  (hR:gm w0.heap.size w0 (w1.setRow g cs)->R (.returned (.tuple #[.agg cs,k])) (w1.setRow g cs)) (h0:gm w0.heap.size w0 w) (hb:gm w.heap.size w w1) (hg:w0.heap.size<=g):bodyPost Vh fn R .ret a (w1.setRow g cs):=by
 have hp':a.tmps[p]?.getD undef=(p_ g):=by simpa using hp
 have hq':a.tmps[q]?.getD undef=k:=by simpa using hq
 have hl':=hl _ (bt2 _ _ _ cs _ _ hr);exact bq9 (v:=.tuple #[.agg cs,k]) (by simp[results,h,hp',hq',asAddr,hl']) hd (hR (aD (h0.trans (hb.mono h0.size)) hg _))
theorem aL{fn:Func}{p q:Tmp}{ty:TypeId}(h:fn.results=#[.cell p ty,.cell q 26]){tmps:Array Value}{g:Nat}{u:fV}{cs:Array Value}{v:Value}{k:Int}
  (hp:tmps.getD p undef=(p_ g)) (hq:tmps.getD q undef=(p_ (g+1))) (hr:u.heap[g]?=some (.cells cs ty (0,0))) (he:u.heap[g+1]?=some (.cells #[v] 26 (0,0)))
  (hl:∀u:fV,u.heap[g]?=some (.cells cs ty (0,0))->(loadVar ty (a_ g 0)).run Vh u=.ok (.agg cs) u):
  (results fn tmps).run Vh (u.setCell (a_ (g+1) 0) (.int .i64 k))=.ok (.tuple #[.agg cs,.int .i64 k]) (u.setCell (a_ (g+1) 0) (.int .i64 k)):=by
 have hp':tmps[p]?.getD undef=(p_ g):=by simpa using hp
 have hq':tmps[q]?.getD undef=(p_ (g+1)):=by simpa using hq
 have h1:=hl _ ((bo0 _ (a_ (g+1) 0) (.int .i64 k) _ (by simp)).trans hr);have hc:=bp1 (bD4 (v:=v) (u:=.int .i64 k) he);have h2:(loadVar 26 (a_ (g+1) 0)).run Vh (u.setCell (a_ (g+1) 0) (.int .i64 k))=.ok (.int .i64 k) (u.setCell (a_ (g+1) 0) (.int .i64 k)):=by simp[go_sem,hc]
 simp[results,h,hp',hq',asAddr,h1,h2]
theorem aQ{fn:Func}{p q:Tmp}{ty:TypeId}(h:fn.results=#[.cell p ty,.cell q 26]){tmps:Array Value}{g:Nat}{w1:fV}{cs zs:Array Value}{v:Value}
  (hp:tmps.getD p undef=(p_ g)) (hq:tmps.getD q undef=(p_ (g+1))) (hr:w1.heap[g]?=some (.cells zs ty (0,0))) (he:w1.heap[g+1]?=some (.cells #[v] 26 (0,0)))
  (hl:∀u:fV,u.heap[g]?=some (.cells cs ty (0,0))->(loadVar ty (a_ g 0)).run Vh u=.ok (.agg cs) u):
  (results fn tmps).run Vh ((w1.setRow g cs).setCell (a_ (g+1) 0) (.int .i64 0))=.ok (.tuple #[.agg cs,.int .i64 0]) ((w1.setRow g cs).setCell (a_ (g+1) 0) (.int .i64 0)):=
 aL h hp hq (bt2 _ _ _ cs _ _ hr) ((bt0 _ _ _ _ (by omega)).trans he) hl
theorem Jz{w:fV}{b b' g e z:Nat}{v:Value}{n:Nat}{xs:List Value}(h:w.ownsRow b e z v n xs)(hg:g<b)(hb:b'<=b)(cs:Array Value):(w.setRow g cs).ownsRow b' e z v n xs:=
 ⟨h.1,h.2.imp id (fun⟨k,cap,cur,e1,e2,e3,r⟩=>⟨k,cap,cur,e1,bo6 hb e2,(bt0 _ _ _ _ (by omega)).trans e3,r⟩)⟩
structure VS (T:TypeId) (z:Array Value) (w:fV) (B V:Nat) (u:fV) (l:List UInt8) (cs:Array Value):Prop where
 lo:B<w.heap.size
 lv:w.heap.size<V
 D8:iL u B l
 grown:w.grownBy u (some B)
 res:u.heap[w.heap.size]?=some (.cells z T (0,0))
 var:u.heap[V]?=some (.cells cs T (0,0))
variable{T:TypeId} {z cs cs':Array Value} {w u u2:fV} {B V:Nat} {l l2:List UInt8}
theorem VS.start(T:TypeId)(z:Array Value)(h:iL w B l):VS T z w B (w.heap.size+1) ((w.alloc (.cells z T)).alloc (.cells z T)) l z:=
 ⟨h.lt,wy _,(h.alloc _).alloc _,gV (gV (il _ _) _) _,by rw[bn8 _ _ _ (by simp)];exact bn3 w _,by
  have q:=bn3 (w.alloc (.cells z T)) (.cells z T);rw[show(w.alloc (.cells z T)).heap.size=w.heap.size+1 by simp]at q;exact q⟩
theorem VS.make(h0:B<w.heap.size)(h:iL u B l)(hg:w.grownBy u (some B))(hr:u.heap[w.heap.size]?=some (.cells z T (0,0))):VS T z w B u.heap.size (u.alloc (.cells z T)) l z:=
 ⟨h0,bo2 hr,h.alloc _,gV hg _,by rw[bn8 _ _ _ (bo2 hr)];exact hr,bn3 u _⟩
theorem VS.next(h:VS T z w B V u l cs)(hr:iL u2 B l2)(hg:u.grownBy u2 (some B)):VS T z w B V u2 l2 cs:=
 ⟨h.lo,h.lv,hr,gH h.grown hg,(hg.block _ (bo2 h.res) (by have:=h.lo;have:=h.lv;simp;omega)).trans h.res,(hg.block _ (bo2 h.var) (by have:=h.lo;have:=h.lv;simp;omega)).trans h.var⟩
theorem VS.set(h:VS T z w B V u l cs)(j:Nat)(v:Value):VS T z w B V (u.setCell (a_ V j) v) l (cs.setIfInBounds j v):=
 ⟨h.lo,h.lv,gP.other h.D8 (by have:=h.lo;have:=h.lv;simp;omega) _,gP.gN h.grown (bv6 h.lv) _,by rw[bo0 _ _ _ _ (by have:=h.lv;simp;omega)];exact h.res,gP.gI h.var j v⟩
def N8(u:fV)(b:Nat):List (Nat×Value)->fV
 |[]=>u
 |p::r=>N8 (u.setCell (a_ b p.1) p.2) b r
def SH(c:Array Value):List (Nat×Value)->Array Value
 |[]=>c
 |p::r=>SH (c.setIfInBounds p.1 p.2) r
theorem VS.sets(h:VS T z w B V u l cs)(ps:List (Nat×Value))(e:SH cs ps=cs'):VS T z w B V (N8 u V ps) l cs':=by
 induction ps generalizing u cs with
 |nil=>exact e▸h
 |cons p r ih=>exact ih (h.set p.1 p.2) e
theorem VS.free(h:VS T z w B V u l cs):(∀j,u.frozen? (a_ V j)=false)/\∀j,u.frozen? (a_ w.heap.size j)=false:=⟨gP.gM h.var,gP.gM h.res⟩
theorem VS.done(h:VS T z w B V u l cs)(ps:List (Nat×Value)):w.grownBy (N8 u w.heap.size ps) (some B):=by
 have:∀(ps:List (Nat×Value)) (u:fV),w.grownBy u (some B)->w.grownBy (N8 u w.heap.size ps) (some B):=fun ps=>by
  induction ps with
  |nil=>exact fun u hu=>hu
  |cons p r ih=>exact fun u hu=>ih _ (gP.gN hu (bn7 _) _)
 exact this ps u h.grown
theorem VS.below(h:VS T z w B V u l cs)(hb:gm u.heap.size u u2):VS T z w B V u2 l cs:=
 ⟨h.lo,h.lv,(hb.block _ (bo2 h.D8)).trans h.D8,jh h.grown hb,(hb.block _ (bo2 h.res)).trans h.res,(hb.block _ (bo2 h.var)).trans h.var⟩
end Rd
namespace gP
open Bs Rd
def FC(l:List UInt8)(B:Nat)(w:fV)(ee:Ending)(w':fV):Prop:=w.grownBy w' (some B)/\match l with
 |a::b::c::d::e::f::a'::b'::c'::d'::e'::f'::t::t'::r=>if og.bf0 (256*(t.toNat:Int)+(t'.toNat:Int))=false then ee=.panicked (iH 3)else if og.ko ⟨r.toArray⟩=false then ee=.panicked (iH 7)else ee=.returned (.agg (rI a.toNat b.toNat c.toNat d.toNat e.toNat f.toNat a'.toNat b'.toNat c'.toNat d'.toNat e'.toNat f'.toNat (256*(t.toNat:Int)+(t'.toNat:Int)) ⟨r.toArray⟩))
 |_=>ee=.panicked (iH 1)
theorem zL{u:fV}{g:Nat}{t:TypeId}{b0 b1 b2 b3 b4 b5 b6 b7 b8 b9 b10 b11 b12 b13:Value}(h:u.heap[g]?=some (.cells #[b0,b1,b2,b3,b4,b5,b6,b7,b8,b9,b10,b11,b12,b13] t (0,0))):
  u.cell? (a_ g 0)=some b0/\u.cell? (a_ g 1)=some b1/\u.cell? (a_ g 2)=some b2/\u.cell? (a_ g 3)=some b3/\u.cell? (a_ g 4)=some b4/\u.cell? (a_ g 5)=some b5/\u.cell? (a_ g 6)=some b6/\u.cell? (a_ g 7)=some b7/\u.cell? (a_ g 8)=some b8/\u.cell? (a_ g 9)=some b9/\u.cell? (a_ g 10)=some b10/\u.cell? (a_ g 11)=some b11/\u.cell? (a_ g 12)=some b12/\u.cell? (a_ g 13)=some b13:=by
 have q:=fun j=>bn0 u g j _ _ _ h;exact⟨q 0,q 1,q 2,q 3,q 4,q 5,q 6,q 7,q 8,q 9,q 10,q 11,q 12,q 13⟩
theorem xu{l:List UInt8}{B:Nat}{w w':fV}(hg:w.grownBy w' (some B))(h:l.length<14):FC l B w (.panicked (iH 1)) w':=by
 refine⟨hg,?_⟩
 split
 ·simp only[bn5]at h;omega
 rfl
theorem NC{a b c d e f a' b' c' d' e' f' t t':UInt8}{r:List UInt8}{B:Nat}{w w':fV}(hg:w.grownBy w' (some B))(ht:og.bf0 (256*(t.toNat:Int)+(t'.toNat:Int))=false):FC (a::b::c::d::e::f::a'::b'::c'::d'::e'::f'::t::t'::r) B w (.panicked (iH 3)) w':=by
 refine⟨hg,?_⟩;show ite _ _ _;rw[bp0 ht]
theorem Em{a b c d e f a' b' c' d' e' f' t t':UInt8}{r:List UInt8}{B:Nat}{w w':fV}{ee:Ending}(hg:w.grownBy w' (some B))(ht:og.bf0 (256*(t.toNat:Int)+(t'.toNat:Int))=true)(he:if og.ko ⟨r.toArray⟩=false then ee=.panicked (iH 7)else ee=.returned (.agg (rI a.toNat b.toNat c.toNat d.toNat e.toNat f.toNat a'.toNat b'.toNat c'.toNat d'.toNat e'.toNat f'.toNat (256*(t.toNat:Int)+(t'.toNat:Int)) ⟨r.toArray⟩))):FC (a::b::c::d::e::f::a'::b'::c'::d'::e'::f'::t::t'::r) B w ee w':=by
 refine⟨hg,?_⟩;show ite _ _ _;rw[bo4 (by rw[ht];decide)];exact he
theorem Cr(B:Nat)(l:List UInt8)(w:fV)(h:iL w B l)(hs:l.length<=140737488355014):
  f_ Vh 57 #[p_ B] w fun ee w'=>FC l B w ee w':=by
 have S0:=Fe (VS.start 55 (rI 0 0 0 0 0 0 0 0 0 0 0 0 0 ⟨#[]⟩) h);clear h;go_enter func57,ntmps57;go_wp2_with fail
 by_cases h6:l.length<6
 ·refine on_ (JG _ _ _ S0.D8 h6) fun v g=>?_
  exact⟨rfl,xu (gH S0.grown g) (by omega)⟩
 obtain⟨a,b,c,d,e,f,l,rfl⟩:=sixth l (by omega);refine on_ (tZ _ _ _ _ _ _ _ _ _ S0.D8 (by simp only[bn5,maxLen]at*;omega)) ?_;rintro w1 ⟨h1,g1⟩;have S1:=Fe (S0.next h1 g1);have S2:=Fe (S1.sets [(0,.int .u8 a.toNat),(1,.int .u8 b.toNat),(2,.int .u8 c.toNat),(3,.int .u8 d.toNat),(4,.int .u8 e.toNat),(5,.int .u8 f.toNat)] (cs':=(rI a.toNat b.toNat c.toNat d.toNat e.toNat f.toNat 0 0 0 0 0 0 0 ⟨#[]⟩)) rfl);obtain⟨x0,x1,x2,x3,x4,x5,x6,x7,x8,x9,x10,x11,x12,x13⟩:=zL S1.var;have f1:=S1.free.1;clear h1 g1 S0 S1 h6;go_wp2_with fail
 by_cases h6:l.length<6
 ·refine on_ (JG _ _ _ S2.D8 h6) fun v g=>?_
  exact⟨rfl,xu (gH S2.grown g) (by simp only[bn5];omega)⟩
 obtain⟨a',b',c',d',e',f',l,rfl⟩:=sixth l (by omega);refine on_ (tZ _ _ _ _ _ _ _ _ _ S2.D8 (by simp only[bn5,maxLen]at*;omega)) ?_;rintro w2 ⟨h1,g1⟩;clear x0 x1 x2 x3 x4 x5 x6 x7 x8 x9 x10 x11 x12 x13 f1 h6;have S3:=Fe (S2.next h1 g1);have S4:=Fe (S3.sets [(6,.int .u8 a'.toNat),(7,.int .u8 b'.toNat),(8,.int .u8 c'.toNat),(9,.int .u8 d'.toNat),(10,.int .u8 e'.toNat),(11,.int .u8 f'.toNat)] (cs':=(rI a.toNat b.toNat c.toNat d.toNat e.toNat f.toNat a'.toNat b'.toNat c'.toNat d'.toNat e'.toNat f'.toNat 0 ⟨#[]⟩)) rfl);obtain⟨x0,x1,x2,x3,x4,x5,x6,x7,x8,x9,x10,x11,x12,x13⟩:=zL S3.var;have f1:=S3.free.1;clear h1 g1 S2 S3;go_wp2_with fail
 by_cases h2:l.length<2
 ·refine on_ (BC _ _ _ S4.D8 h2) fun v g=>?_
  exact⟨rfl,xu (gH S4.grown g) (by simp only[bn5];omega)⟩
 obtain⟨t,t',r,rfl⟩:=second l (by omega)
 cases ht:og.bf0 (256*(t.toNat:Int)+(t'.toNat:Int))with
 |false=>
  refine on_ (an8 _ _ _ _ _ S4.D8 (by simp only[bn5,maxLen]at*;omega) ht) fun v g=>?_;exact⟨rfl,NC (gH S4.grown g) ht⟩
 |true=>
  have HT:=Fe (I4 _ _ _ _ _ S4.D8 (by simp only[bn5,maxLen]at*;omega) ht);obtain⟨x,hx⟩:=ex_ ((256*(t.toNat:Int)+(t'.toNat:Int)));rw[<-hx]at HT;have HX:=Fe hx;have HTY:=Fe ht;clear hx ht h2;refine on_ HT ?_;rintro w3 ⟨h1,g1⟩;clear x0 x1 x2 x3 x4 x5 x6 x7 x8 x9 x10 x11 x12 x13 f1 HT;have S5:=Fe (S4.next h1 g1);have S6:=Fe (S5.sets [(12,.int .u16 x)] (cs':=(rI a.toNat b.toNat c.toNat d.toNat e.toNat f.toNat a'.toNat b'.toNat c'.toNat d'.toNat e'.toNat f'.toNat x ⟨#[]⟩)) rfl);obtain⟨x0,x1,x2,x3,x4,x5,x6,x7,x8,x9,x10,x11,x12,x13⟩:=zL S5.var;have f1:=S5.free.1;clear h1 g1 S4 S5;go_wp2_with fail
  cases hl:og.ko ⟨r.toArray⟩with
  |false=>
   refine on_ (Gz _ _ _ S6.D8 (by simp only[bn5]at hs;omega) hl) fun v g=>?_;exact⟨rfl,Em (gH S6.grown g) HTY (by rw[bp0 hl])⟩
  |true=>
   refine on_ (IL _ _ _ S6.D8 (by simp only[bn5]at hs;omega) hl) ?_;rintro w4 ⟨h1,g1⟩;have HLD:=Fe hl;clear x0 x1 x2 x3 x4 x5 x6 x7 x8 x9 x10 x11 x12 x13 f1 hl;have S7:=Fe (S6.next h1 g1);have HG:=Fe ((S7.set 13 (.string ⟨r.toArray⟩)).done [(0,.int .u8 a.toNat),(1,.int .u8 b.toNat),(2,.int .u8 c.toNat),(3,.int .u8 d.toNat),(4,.int .u8 e.toNat),(5,.int .u8 f.toNat),(6,.int .u8 a'.toNat),(7,.int .u8 b'.toNat),(8,.int .u8 c'.toNat),(9,.int .u8 d'.toNat),(10,.int .u8 e'.toNat),(11,.int .u8 f'.toNat),(12,.int .u16 x),(13,.string ⟨r.toArray⟩)]);obtain⟨x0,x1,x2,x3,x4,x5,x6,x7,x8,x9,x10,x11,x12,x13⟩:=zL S7.var;obtain⟨y0,y1,y2,y3,y4,y5,y6,y7,y8,y9,y10,y11,y12,y13⟩:=zL S7.res;obtain⟨f1,f2⟩:=S7.free;clear h1 g1 S6 S7;go_wp2;refine bq9 (v:=.agg (rI a.toNat b.toNat c.toNat d.toNat e.toNat f.toNat a'.toNat b'.toNat c'.toNat d'.toNat e'.toNat f'.toNat x ⟨r.toArray⟩)) (by simp[results,results57,go_sem,x0,x1,x2,x3,x4,x5,x6,x7,x8,x9,x10,x11,x12,x13,y0,y1,y2,y3,y4,y5,y6,y7,y8,y9,y10,y11,y12,y13,f1,f2]) rfl ?_;exact Em HG HTY (by rw[bo4 (by rw[gB HLD];decide),gB HX])
theorem FC.out{a b c d e f a' b' c' d' e' f' t t':UInt8}{r:List UInt8}{B:Nat}{w w':fV}{ee:Ending}(h:FC (a::b::c::d::e::f::a'::b'::c'::d'::e'::f'::t::t'::r) B w ee w'):if og.bf0 (256*(t.toNat:Int)+(t'.toNat:Int))=false then ee=.panicked (iH 3)else if og.ko ⟨r.toArray⟩=false then ee=.panicked (iH 7)else ee=.returned (.agg (rI a.toNat b.toNat c.toNat d.toNat e.toNat f.toNat a'.toNat b'.toNat c'.toNat d'.toNat e'.toNat f'.toNat (256*(t.toNat:Int)+(t'.toNat:Int)) ⟨r.toArray⟩)):=h.2
section
variable(B:Nat) (a b c d e f a' b' c' d' e' f' t t':UInt8) (l:List UInt8) (w:fV) (h:iL w B (a::b::c::d::e::f::a'::b'::c'::d'::e'::f'::t::t'::l)) (hs:l.length≤140737488355000)
include h hs
theorem zO{Q:Ending->Prop}(hQ:∀ee,(if og.bf0 (256*(t.toNat:Int)+(t'.toNat:Int))=false then ee=.panicked (iH 3)else if og.ko ⟨l.toArray⟩=false then ee=.panicked (iH 7)else ee=.returned (.agg (rI a.toNat b.toNat c.toNat d.toNat e.toNat f.toNat a'.toNat b'.toNat c'.toNat d'.toNat e'.toNat f'.toNat (256*(t.toNat:Int)+(t'.toNat:Int)) ⟨l.toArray⟩)))->Q ee):f_ Vh 57 #[p_ B] w fun ee w'=>Q ee/\w.grownBy w' (some B):=
 (Cr B _ w h (by simp only[bn5];omega)).mono fun ee _ q=>⟨hQ ee q.out,q.1⟩
theorem Ad(ht:og.bf0 (256*(t.toNat:Int)+(t'.toNat:Int))=true)(hl:og.ko ⟨l.toArray⟩=true):f_ Vh 57 #[p_ B] w fun ee w'=>ee=.returned (.agg (rI a.toNat b.toNat c.toNat d.toNat e.toNat f.toNat a'.toNat b'.toNat c'.toNat d'.toNat e'.toNat f'.toNat (256*(t.toNat:Int)+(t'.toNat:Int)) ⟨l.toArray⟩))/\w.grownBy w' (some B):=zO B a b c d e f a' b' c' d' e' f' t t' l w h hs fun ee q=>by rwa [bo4 (by rw[ht];decide),bo4 (by rw[hl];decide)]at q
end
end gP
namespace gP
open Bs Rd
theorem jE(k:Int)(w:fV):(Instr.typeAssert (.iface 26 (.int .i64 k)) 20 26 false).run Vh w=.ok (.int .i64 k) w:=by kernel_rfl
theorem jf{F:FuncId}{fn:Func}(hF:prog.funcs[F]?=some fn)(hb:fn.body=f95.body)(hn:fn.ntmps=7)(hr:fn.results=#[])(p:Addr)(x k:Int)(older:List PanicEntry)(w:fV)(hc:w.cell? p=some (.int .i64 x))(hz:w.frozen? p=false):
  CallsD Vh F #[.pointer (some p)] (.panicking ({v:=.iface 26 (.int .i64 k),recovered:=false}::older)) w fun e u' w'=>
   e=.returned (.tuple #[])/\u'=.panicking ({v:=.iface 26 (.int .i64 k),recovered:=true}::older)/\w'=w.setCell p (.int .i64 k):=by
 refine callsD_of_wpS hF (hb.trans rfl) fun c₀ cs hu=> ?_;apply wpS_seq;apply wpS_region;simp[wpOpsS,go_sem,recoverD,hu,hn,Exit.thenS];refine wpS_of_wp ?_;change Code.wp _ _ _ {tmps:=#[.pointer (some p),.iface 26 (.int .i64 k),.iface 26 (.int .i64 k),undef,undef,undef,undef],defers:=[]} _;have hta:=fun u=>jE k u;go_wp2;exact⟨rfl,_,rfl,.tuple #[],by simp[results,hr],rfl,rfl,rfl⟩
theorem kT{F:FuncId}{fn:Func}(hF:prog.funcs[F]?=some fn)(hb:fn.body=f95.body)(hn:fn.ntmps=7)(hr:fn.results=#[])(p:Addr)(w:fV):
  CallsD Vh F #[.pointer (some p)] .returning w fun e u' w'=>e=.returned (.tuple #[])/\u'=.returning/\w'=w:=by
 refine callsD_of_wpS hF (hb.trans rfl) fun c₀ cs hu=> ?_;apply wpS_seq;apply wpS_region;simp[wpOpsS,go_sem,recoverD,hu,hn,Exit.thenS];refine wpS_of_wp ?_;change Code.wp _ _ _ {tmps:=#[.pointer (some p),.nilIface,.nilIface,undef,undef,undef,undef],defers:=[]} _;go_wp2
 cases c₀
 simp_all[bodyPostS,results,hr]
theorem iG(w:fV)(B:Nat)(s:ByteArray)(h:B=w.heap.size):iL (w.alloc (.cells #[.string s] 166)) B s.data.toList:=by
 subst h;unfold iL;rw[mQ];exact bn3 w _
theorem jk{w W w1:fV}{B:Nat}(g:W.grownBy w1 (some B))(h:gm w.heap.size w W)(hB:w.heap.size<=B):gm w.heap.size w w1:=
 h.grown g h.size (fun k hk=>by simp at hk;omega)
theorem blocks{w w1 W:fV}{s:ByteArray}{Z:Array Value}{T:TypeId}(g:W.grownBy w1 (some (w.heap.size+1+1)))(hW:W=((w.alloc (.cells Z T)).alloc (.cells #[.int .i64 0] 26)).alloc (.cells #[.string s] 166)):
  w1.heap[w.heap.size]?=some (.cells Z T (0,0))/\w1.heap[w.heap.size+1]?=some (.cells #[.int .i64 0] 26 (0,0)):=by
 have z2:((w.alloc (.cells Z T)).alloc (.cells #[.int .i64 0] 26)).heap.size=w.heap.size+1+1:=by simp
 have z1:(w.alloc (.cells Z T)).heap.size=w.heap.size+1:=by simp
 have e0:W.heap[w.heap.size]?=some (.cells Z T (0,0)):=by
  rw[hW,bn8 _ _ _ (by omega),bn8 _ _ _ (by omega)];exact bn3 w _
 have e1:W.heap[w.heap.size+1]?=some (.cells #[.int .i64 0] 26 (0,0)):=by
  rw[hW,bn8 _ _ _ (by omega)];have q:=bn3 (w.alloc (.cells Z T)) (.cells #[.int .i64 0] 26);rw[z1]at q;exact q
 exact⟨(g.block _ (bo2 e0) (fun q=>by simp at q;omega)).trans e0,(g.block _ (bo2 e1) (fun q=>by simp at q)).trans e1⟩
theorem je(s:ByteArray)(k:Int)(w:fV)
  (hR:∀u B,iL u B s.data.toList->f_ Vh 57 #[p_ B] u fun ee w'=>ee=.panicked (iH k)/\u.grownBy w' (some B)):
  f_ Vh 56 #[.string s,.func (.func 57) #[] #[]] w fun ee w'=>ee=.returned (.tuple #[.agg (rI 0 0 0 0 0 0 0 0 0 0 0 0 0 ⟨#[]⟩),.int .i64 k])/\gm w.heap.size w w':=by
 have hmf:=hmf_;have HR:=Fe hR;clear hR;go_enter_defers func56,ntmps56
 go_wp2_with fail;refine on_ (HR _ _ (iG _ _ s (by simp))) fun w1 g1=>?_;obtain⟨hr,he⟩:=blocks g1 rfl;refine bt9 (f:=95) (args:=#[p_ (w.heap.size+1)]) (by simp) (by simp[go_sem]) ?_;refine(jf func95 (by kernel_rfl) (by kernel_rfl) (by kernel_rfl) (a_ (w.heap.size+1) 0) 0 k [] _ (bp1 he) (br2 he)).mono ?_;rintro e u' w'' ⟨rfl,rfl,rfl⟩;exact⟨_,aL results56 rfl rfl hr he (fun u hu=>bq4 u _ _ _ _ _ _ hu underlying55 rfl (by kernel_rfl)),rfl,(jk g1 b3_ (by omega)).setCell (by simp) _⟩
theorem nK(s:ByteArray)(a0 a1 a2 a3 a4 a5 a6 a7 a8 a9 a10 a11 a12:Int)(a13:ByteArray)(w:fV)
  (hR:∀u B,iL u B s.data.toList->f_ Vh 57 #[p_ B] u fun ee w'=>ee=.returned (.agg (rI a0 a1 a2 a3 a4 a5 a6 a7 a8 a9 a10 a11 a12 a13))/\u.grownBy w' (some B)):
  f_ Vh 56 #[.string s,.func (.func 57) #[] #[]] w fun ee w'=>ee=.returned (.tuple #[.agg (rI a0 a1 a2 a3 a4 a5 a6 a7 a8 a9 a10 a11 a12 a13),.int .i64 0])/\gm w.heap.size w w':=by
 have hmf:=hmf_;have HR:=Fe hR;clear hR;go_enter_defers func56,ntmps56
 go_wp2_with fail;refine on_ (HR _ _ (iG _ _ s (by simp))) fun w1 g1=>?_;obtain⟨hr,he⟩:=blocks g1 rfl;have HB:=Fe (jk g1 b3_ (by omega));have hc:=fun cs=>bp1 ((bt0 w1 w.heap.size _ cs (by omega)).trans he);have hf:=fun cs=>br2 ((bt0 w1 w.heap.size _ cs (by omega)).trans he);go_wp2_with (refine bq2 rfl 55 (.tmp 4) (.tmp 11) rfl w.heap.size _ rfl rfl 55 _ hr (by kernel_rfl) (by kernel_rfl) (by kernel_rfl) ?_);refine bt9 (f:=95) (args:=#[p_ (w.heap.size+1)]) (by simp) (by simp[go_sem]) ?_;refine(kT func95 (by kernel_rfl) (by kernel_rfl) (by kernel_rfl) (a_ (w.heap.size+1) 0) _).mono ?_;rintro e u' w'' ⟨rfl,rfl,rfl⟩;exact⟨_,aQ results56 rfl rfl hr he (fun u hu=>bq4 u _ _ _ _ _ _ hu underlying55 rfl (by kernel_rfl)),rfl,(aD HB (bn7 _) _).setCell (by simp) _⟩
end gP
namespace Om
open Bs
theorem ab4(P:Program)(g o:Nat)(t:TypeId)(fz:Nat×Nat):∀(vs:List Value) (i:Nat) (cur:Array Value) (w:fV),w.heap[g]?=some (.cells cur t fz)->(fz.2<=o+i∨cur.size<=fz.1)->o+i+vs.length<=cur.size->(∀v ∈ vs,v.oneCell'=true)->
  (storeCells (a_ g o) vs i).run P w=.ok () (w.setRow g (cur.toList.take (o+i)++vs++cur.toList.drop (o+i+vs.length)).toArray)
 |[],i,cur,w,hg,_,_,_=>by
  simp only[storeCells,br8,bp6,bC6,bs6,Array.toArray_toList];rw[setRow_self w g cur t fz hg];rfl
 |v::rest,i,cur,w,hg,hfz,hl,h1=>by
  have hi:o+i<cur.size:=by simp at hl;omega
  have hcell:w.cell? (a_ g (o+i))=some cur[o+i]:=by simp[World.cell?,hg,hi]
  have hfro:w.frozen? (a_ g (o+i))=false:=by
   obtain⟨lo,hi'⟩:=fz;simp only[World.frozen?,hg,Bool.and_eq_false_iff,bw2];simp only at hfz;omega
  have hadd:((a_ g o):Addr).add i=(a_ g (o+i)):=by unfold Addr.add;split<;>simp_all
  have hst:(store (((a_ g o):Addr).add i) v).run P w=.ok () (w.setRow g (cur.setIfInBounds (o+i) v)):=by
   rw[hadd,run_store P w _ v _ (h1 v (by simp)),hcell];simp[hfro,bs3 w g (o+i) cur t fz v hg]
  have ih:=ab4 P g o t fz rest (i+1) (cur.setIfInBounds (o+i) v) (w.setRow g (cur.setIfInBounds (o+i) v)) (bt2 w g cur _ t _ hg) (by rcases hfz with q|q;exact bo1 (by omega);exact bo3 (by simpa using q)) (by simp at hl ⊢;omega) (fun x hx=>h1 x (by simp[hx]));simp only[storeCells,by1,hst,bw5,ih,setRow_setRow];congr 3
  have e:=list_seg_step cur.toList (o+i) v rest (by simp at hl ⊢;omega);simpa[bz5,Nat.add_assoc]using e
def Has(w:fV)(base:Nat)(e:TypeId)(v:Value)(L:List UInt8):Prop:=
 ∃g cap cur fz,v=.slice (some (a_ g 0)) L.length cap/\base<=g/\w.heap[g]?=some (.cells cur e fz)/\(fz.2<=L.length∨cur.size<=fz.1)/\L.length<=cap/\cap<=maxLen/\cur.size=cap/\cur.toList.take L.length=gY L
theorem Has.cells{w:fV}{base:Nat}{e:TypeId}{v:Value}{L:List UInt8}(h:Has w base e v L):∃g cap,v=.slice (some (a_ g 0)) L.length cap/\base<=g/\g<w.heap.size/\∀j u,(gY L)[j]?=some u->w.cell? (((a_ g 0):Addr).add j)=some u:=by
 obtain⟨g,cap,cur,fz,rfl,hb,hg,hfz,hn,hm,hs,ht⟩:=h;refine⟨g,cap,rfl,hb,(bs2.1 hg).1,fun j u hu=> ?_⟩;rw[jB,bn0 w g j cur e fz hg];rw[<-ht,bD2]at hu
 split at hu
 ·simpa using hu
 cases hu
theorem append{P:Program}(w:fV)(base:Nat)(t ty e:TypeId)(i:TypeInfo)(ht:P.underlying t=some (.slice e))(hi:P.info? e=some i)(hz:i.zero=some (.int .u8 0))(hsize:i.size=1)(hby:i.bytes=1)
  (v:Value) (L M:List UInt8) (hown:Has w base e v L) (a:Addr) (c:Nat) (hnews:∀j u,(gY M)[j]?=some u->w.cell? (a.add j)=some u)
  (hb:L.length+M.length<=140737488355328) (hbase:base<=w.heap.size):
  ∃v' w',(Builtin.append_ #[t,t] ty #[v,.slice (some a) M.length c]).run P w=.ok v' w'/\Has w' base e v' (L++M)/\w.grownBy w' v.ownBlock:=by
 obtain⟨g,cap,cur,fz,rfl,h1,hg,hfz,hn,hm,hcs,htk⟩:=hown;have hl:(gY M).length=M.length*i.size:=by rw[qb,hsize,bz3]
 have hf:=run_firstCells_some (P:=P) w i.size M.length a M.length c (gY M) hl hnews;have hxl:(gY L).length=L.length:=qb L
 by_cases hroom:L.length+M.length<=cap
 ·have hst:=ab4 P g (L.length*i.size) e fz (gY M) 0 cur w hg (by rw[hsize,bz3];simpa using hfz) (by rw[hsize,bz3,qb];omega) (rq M)
  simp only[bC6]at hst;refine⟨.slice (some (a_ g 0)) (L.length+M.length) cap,w.setRow g (cur.toList.take (L.length*i.size)++gY M++cur.toList.drop (L.length*i.size+(gY M).length)).toArray,?_,?_,?_⟩
  ·simp[Builtin.append_,bw4 ht,sizeOf,typeInfo,hi,Builtin.lenOf,hroom,hf,Addr.add_lit,hst]
  ·refine⟨g,cap,_,fz,by rw[bn6],h1,bt2 w g cur _ e _ hg,?_,by rw[bn6];exact hroom,hm,?_,?_⟩
   ·rcases hfz with q|q
    ·exact bo1 (by rw[bn6];omega)
    refine bo3 ?_;simp only[bt3,bn6,bp7,bq8,bp2,qb,hsize];omega
   ·simp only[bt3,bn6,bp7,bq8,bp2,qb,hsize]
    omega
   simp only[hsize,bz3];rw[htk,pY];have:(gY L++gY M).length=(L++M).length:=by rw[bn6,bn6,qb,qb]
   rw[<-this];exact bD8
  exact⟨rfl,rfl,rfl,by simp,fun k _ hk=>bt0 w g k _ (fun e=>hk (by simp[Value.ownBlock,e]))⟩
 have hH:Has w base e (.slice (some (a_ g 0)) L.length cap) L:=⟨g,cap,cur,fz,rfl,h1,hg,hfz,hn,hm,hcs,htk⟩;obtain⟨g',cap',hv,_,_,hc⟩:=hH.cells;obtain⟨rfl,rfl⟩:g=g'/\cap=cap':=by simpa using hv
 have h63:L.length+M.length<=maxLen:=by simp only[maxLen];omega
 have hr:=run_append_grow (P:=P) w t ty e i (.int .u8 0) ht hi hz (a_ g 0) L.length cap (gY L) (by rw[qb,hsize,bz3]) hc a M.length c (gY M) hl hnews (by omega) (by omega) (growslice_fits (by omega) (by rw[hby];omega));have hge:=grownCap_ge w (L.length+M.length) cap e;refine⟨_,_,hr,⟨w.heap.size,_,_,(0,0),by rw[bn6],hbase,bn3 w.drew _,bo1 (bp3 _),by rw[bn6];exact hge,grownCap_le_maxLen w (L.length+M.length) cap e h63,?_,?_⟩,⟨rfl,rfl,rfl,by simp,fun k hk _=>heap_alloc_old w.drew _ hk⟩⟩
 ·have hz1:(Value.int IntKind.u8 0).cells.size=1:=rfl
  simp only[Array.size_append,bt3,size_zeroCells,hz1,qb];omega
 simp only[Array.toList_append,bq1];rw[<-bq1,<-pY];have:(gY (L++M)).length=(L++M).length:=qb _;rw[<-this];exact bD8
theorem aq8{P:Program}(w:fV){o:Oper}{a:Act}{K:Act->fV->Prop}{Q:Exit->Act->fV->Prop}(s x:Operand)(t:TypeId)
  (ho:o.op=.call {callee:=.builtin .append,args:=#[s,x],argTypes:=#[t,t]})
  (base:Nat) (e:TypeId) (i:TypeInfo) (ht:P.underlying t=some (.slice e)) (hi:P.info? e=some i) (hz:i.zero=some (.int .u8 0)) (hsize:i.size=1) (hby:i.bytes=1)
  (v:Value) (L M:List UInt8) (hs:a.eval s=v) (hown:Has w base e v L) (ad:Addr) (m c:Nat) (hM:M.length=m) (hx:a.eval x=.slice (some ad) m c) (hnews:∀j u,(gY M)[j]?=some u->w.cell? (ad.add j)=some u)
  (hb:L.length+M.length<=140737488355328) (hbase:base<=w.heap.size)
  (h:∀v' w',Has w' base e v' (L++M)->w.grownBy w' v.ownBlock->K (a.put o.dst v') w'):o.wp P a w K Q:=by
 subst hM;obtain⟨v',w',hr,h2,h3⟩:=append (P:=P) w base t o.type e i ht hi hz hsize hby v L M hown ad c hnews hb hbase;unfold Oper.wp execOp;simp only[ho,resolve,invoke,builtin,by1,bB2,bw5,List.map_toArray,bv0,bA2,hs,hx,hr];exact h v' w' h2 h3
theorem Xg{P:Program}(w:fV){ops:Array Oper}{rest:List Oper}{o:Oper}{a:Act}{Q:Exit->Act->fV->Prop}(hgd:o.guard=none)(s x:Operand)(t:TypeId)
  (ho:o.op=.call {callee:=.builtin .append,args:=#[s,x],argTypes:=#[t,t]})
  (base:Nat) (e:TypeId) (i:TypeInfo) (ht:P.underlying t=some (.slice e)) (hi:P.info? e=some i) (hz:i.zero=some (.int .u8 0)) (hsize:i.size=1) (hby:i.bytes=1)
  (v:Value) (L M:List UInt8) (hs:a.eval s=v) (hown:Has w base e v L) (ad:Addr) (m c:Nat) (hM:M.length=m) (hx:a.eval x=.slice (some ad) m c) (hnews:∀j u,(gY M)[j]?=some u->w.cell? (ad.add j)=some u)
  (hb:L.length+M.length<=140737488355328) (hbase:base<=w.heap.size)
  (h:∀v' w',Has w' base e v' (L++M)->w.grownBy w' v.ownBlock->wpList P ops Q rest (a.put o.dst v') w'):wpList P ops Q (o::rest) a w:=
 wpList_plain hgd fun _ hK=>aq8 w s x t ho base e i ht hi hz hsize hby v L M hs hown ad m c hM hx hnews hb hbase fun v' w' h2 h3=>hK _ _ (h v' w' h2 h3)
theorem Has.alloc{w:fV}{base:Nat}{e:TypeId}{v:Value}{L:List UInt8}(h:Has w base e v L)(o:Obj):Has (w.alloc o) base e v L:=by
 obtain⟨g,cap,cur,fz,rfl,h1,hg,rest⟩:=h;exact⟨g,cap,cur,fz,rfl,h1,by rw[bn8 _ _ _ (bs2.1 hg).1];exact hg,rest⟩
theorem Has.lt{w:fV}{base:Nat}{e:TypeId}{v:Value}{L:List UInt8}(h:Has w base e v L):∀x,v.ownBlock=some x->base<=x/\x<w.heap.size:=by
 obtain⟨g,cap,cur,fz,rfl,h1,hg,rest⟩:=h;intro x hx;simp[Value.ownBlock]at hx;subst hx;exact⟨h1,(bs2.1 hg).1⟩
theorem Has.bytes(w:fV)(e:TypeId)(s:ByteArray)(hm:s.size<=maxLen):
  Has (w.drew.alloc (.cells (bytesRow s (grownCap w s.size 0 e)) e ((bytesRow s (grownCap w s.size 0 e)).size,(bytesRow s (grownCap w s.size 0 e)).size+1))) w.heap.size e (.slice (some (a_ w.heap.size 0)) s.size (grownCap w s.size 0 e)) s.data.toList:=by
 have hl:s.data.toList.length=s.size:=by rw[bp2];rfl
 have hge:=grownCap_ge w s.size 0 e;have hz:(bytesRow s (grownCap w s.size 0 e)).size=grownCap w s.size 0 e:=by
  simp only[bytesRow,Array.size_append,Array.size_map,Array.size_replicate];have:s.data.size=s.size:=rfl;omega
 refine⟨w.heap.size,grownCap w s.size 0 e,bytesRow s (grownCap w s.size 0 e),_,by rw[hl],bn7 _,bn3 w.drew _,bo3 (bn7 _),by rw[hl];exact hge,grownCap_le_maxLen w s.size 0 e hm,hz,?_⟩;rw[hl,bytesRow,Array.toList_append,Array.toList_map];have:(gY s.data.toList).length=s.size:=by rw[qb,hl]
 rw[<-this];exact bD8
theorem Has.string{P:Program}{w:fV}{base:Nat}{e:TypeId}{v:Value}{L:List UInt8}(h:Has w base e v L)(src dst:TypeId)(hs:P.underlying src=some (.slice e))(he:P.underlying e=some (.int .u8))(hd:P.underlying dst=some .string):
  (convert src dst v).run P w=.ok (.string ⟨L.toArray⟩) w:=by
 obtain⟨g,cap,rfl,_,_,hc⟩:=h.cells;exact bv8 w _ _ e (a_ g 0) cap L hs he hd (fun j hj=>hc j _ (by simp[gY,hj]))
end Om
namespace Lt
open Bs Rd
open Ip (lS uX)
def bt(l:List UInt8)(i:Nat):Int:=((l.getD i 0).toNat:Int)
def w2(l:List UInt8)(i:Nat):Int:=256*bt l i+bt l (i+1)
def w4(l:List UInt8)(i:Nat):Int:=16777216*bt l i+65536*bt l (i+1)+256*bt l (i+2)+bt l (i+3)
def Co(l:List UInt8):Int:=
 if l.length<20 then 1 else if bt l 0/16≠4∨bt l 0%16<5 then 2 else if 5<bt l 0%16 then 4
 else if w2 l 2<20 then 2 else if((l.length:Nat):Int)<w2 l 2 then 1 else if lS (l.take 20)≠0 then 6
 else if 32768<=w2 l 6∨bt l 8=0 then 2 else if w2 l 6%16384≠0 then 5 else 0
def xX(l:List UInt8)(x:Int):Int:=if Co l=0 then x else 0
def AA(l:List UInt8):ByteArray:=if Co l=0 then⟨((l.drop 20).take ((w2 l 2).toNat-20)).toArray⟩else⟨#[]⟩
theorem nJ{l:List UInt8}{k:Int}(h:Co l=k)(hk:k≠0)(x:Int):xX l x=0:=by unfold xX;rw[bo4 (by rw[h];exact hk)]
theorem EN{l:List UInt8}{k:Int}(h:Co l=k)(hk:k≠0):AA l=⟨#[]⟩:=by unfold AA;rw[bo4 (by rw[h];exact hk)]
theorem pX{l:List UInt8}(h:Co l=0)(x:Int):xX l x=x:=by unfold xX;rw[bp0 h]
theorem I_{l:List UInt8}(h:Co l=0):AA l=⟨((l.drop 20).take ((w2 l 2).toNat-20)).toArray⟩:=by unfold AA;rw[bp0 h]
theorem wL(a b:UInt8):bits .and .u16 (256*(a.toNat:Int)+(b.toNat:Int)) 32768=0↔256*(a.toNat:Int)+(b.toNat:Int)<32768:=by
 have ha:=a.toNat_lt;have hb:=b.toNat_lt;have e:256*(a.toNat:Int)+(b.toNat:Int)=((256*a.toNat+b.toNat:Nat):Int):=by omega
 rw[e,LA _ (by omega)];omega
theorem FQ(a b:UInt8):bits .and .u16 (256*(a.toNat:Int)+(b.toNat:Int)) 16383=0↔(256*(a.toNat:Int)+(b.toNat:Int))%16384=0:=by
 have ha:=a.toNat_lt;have hb:=b.toNat_lt;have e:256*(a.toNat:Int)+(b.toNat:Int)=((256*a.toNat+b.toNat:Nat):Int):=by omega
 rw[e,NG _ (by omega)];omega
theorem twenty(l:List UInt8)(h:20<=l.length):∃a0 a1 a2 a3 a4 a5 a6 a7 a8 a9 a10 a11 a12 a13 a14 a15 a16 a17 a18 a19 r,l=a0::a1::a2::a3::a4::a5::a6::a7::a8::a9::a10::a11::a12::a13::a14::a15::a16::a17::a18::a19::r:=by
 obtain⟨a0,a1,a2,a3,a4,a5,l1,rfl⟩:=gP.sixth l (by omega);simp only[bn5]at h;obtain⟨a6,a7,a8,a9,a10,a11,l2,rfl⟩:=gP.sixth l1 (by omega);simp only[bn5]at h;obtain⟨a12,a13,a14,a15,a16,a17,l3,rfl⟩:=gP.sixth l2 (by omega);simp only[bn5]at h;obtain⟨a18,a19,r,rfl⟩:=gP.second l3 (by omega);exact⟨a0,a1,a2,a3,a4,a5,a6,a7,a8,a9,a10,a11,a12,a13,a14,a15,a16,a17,a18,a19,r,rfl⟩
end Lt
namespace Ut
open Bs Rd Lt
open Ip (lS uX)
open Ud (kR)
def BD(l:List UInt8)(fr ta:Int):Int:=
 if l.length<8 then 1 else if w2 l 4<8 then 2 else if((l.length:Nat):Int)<w2 l 4 then 1
 else if w2 l 6≠0/\lS (kR fr ta (w2 l 4)++l.take (w2 l 4).toNat)≠0 then 6 else 0
def Lr(l:List UInt8)(fr ta x:Int):Int:=if BD l fr ta=0 then x else 0
def Ae(l:List UInt8)(fr ta:Int):ByteArray:=if BD l fr ta=0 then⟨((l.drop 8).take ((w2 l 4).toNat-8)).toArray⟩else⟨#[]⟩
theorem zi{l:List UInt8}{fr ta k:Int}(h:BD l fr ta=k)(hk:k≠0)(x:Int):Lr l fr ta x=0:=by unfold Lr;rw[bo4 (by rw[h];exact hk)]
theorem Ef{l:List UInt8}{fr ta k:Int}(h:BD l fr ta=k)(hk:k≠0):Ae l fr ta=⟨#[]⟩:=by unfold Ae;rw[bo4 (by rw[h];exact hk)]
theorem sS{l:List UInt8}{fr ta:Int}(h:BD l fr ta=0)(x:Int):Lr l fr ta x=x:=by unfold Lr;rw[bp0 h]
theorem JD{l:List UInt8}{fr ta:Int}(h:BD l fr ta=0):Ae l fr ta=⟨((l.drop 8).take ((w2 l 4).toNat-8)).toArray⟩:=by unfold Ae;rw[bp0 h]
theorem eight(l:List UInt8)(h:8<=l.length):∃a0 a1 a2 a3 a4 a5 a6 a7 r,l=a0::a1::a2::a3::a4::a5::a6::a7::r:=by
 obtain⟨a0,a1,a2,a3,a4,a5,l1,rfl⟩:=gP.sixth l (by omega);simp only[bn5]at h;obtain⟨a6,a7,r,rfl⟩:=gP.second l1 (by omega);exact⟨a0,a1,a2,a3,a4,a5,a6,a7,r,rfl⟩
end Ut
namespace Sp
open Bs Rd Lt Ut
open Ip (lS uX kG jY JP Ls)
open Ud (kR si tC Ff uG)
open pQ (jL fold tN)
open Wt (uO qU)
theorem Zo:∀(l:List UInt8) (j:Nat) (x:UInt8) (h:j<l.length),jL (l.set j x)=jL l+((x.toNat:Int)-(l[j].toNat:Int))*(if j%2=0 then 256 else 1)
 |[],j,x,h=>by simp at h
 |[a],0,x,h=>by simp only[bm8,jL,bn2];simp;omega
 |[a],j+1,x,h=>by simp at h
 |a::b::r,0,x,h=>by simp only[bm8,jL,bn2];simp;omega
 |a::b::r,1,x,h=>by simp only[bm9,bm8,jL,bn1,bn2];simp;omega
 |a::b::r,j+2,x,h=>by
  have ih:=Zo r j x (by simpa using h);simp only[bm9,jL,bn1];rw[ih];have e:(j+2)%2=j%2:=by omega
  rw[e];omega
theorem af9(l:List UInt8):lS l=0↔0<jL l/\jL l%65535=0:=by
 have h:=tN l;unfold lS fold
 split<;>omega
theorem ai0(l:List UInt8)(at':Nat)(c:Int)(h:at'+1<l.length)(he:at'%2=0)(z0:l[at']=0)(z1:l[at'+1]=0)(h0:0<=c)(h1:c<=65535):jL (uO l at' c)=jL l+c:=by
 unfold uO;rw[Zo _ (at'+1) _ (by simpa using h),Zo l at' _ (by omega)];rw[List.getElem_set_ne (by omega)];rw[z0,z1,bp0 he,bo4 (by omega),lh,lh];simp;omega
theorem ap6(l:List UInt8)(at':Nat)(h:at'+1<l.length)(he:at'%2=0)(z0:l[at']=0)(z1:l[at'+1]=0):lS (uO l at' (lS l))=0:=by
 have hb:=uX l;rw[af9,ai0 l at' _ h he z0 z1 hb.1 hb.2];have hn:=tN l;unfold lS fold at*
 split at hb<;>(split<;>omega)
theorem aC2(l:List UInt8)(at':Nat)(h:at'+1<l.length)(he:at'%2=0)(z0:l[at']=0)(z1:l[at'+1]=0)(hq:lS l=0):lS (uO l at' 65535)=0:=by
 rw[af9]at hq ⊢;rw[ai0 l at' _ h he z0 z1 (by omega) (by omega)];omega
theorem aj9(n id ttl pr fr ta:Int):lS (kG n id ttl pr fr ta (lS (kG n id ttl pr fr ta 0)))=0:=by
 rw[<-JP];exact ap6 _ 10 (by rw[jY];omega) rfl rfl rfl
theorem al5(id ttl pr fr ta:Int)(load:ByteArray):(Ls id ttl pr fr ta load).length=20+load.size:=by
 rw[Ls,bn6,jY,jc]
theorem ap9(f t fr ta:Int)(load:ByteArray):uG f t fr ta load=iy f++iy t++iy (8+load.size)++iy (Ff f t fr ta load)++load.data.toList:=rfl
theorem YY(f t fr ta:Int)(load:ByteArray):(uG f t fr ta load).length=8+load.size:=by
 rw[ap9];simp[iy];omega
theorem ak1(p l:List UInt8)(k:Nat)(c:Int):p++uO l k c=uO (p++l) (p.length+k) c:=by
 unfold uO;rw[bz6 _ _ (by omega),bz6 _ _ (by omega)];have e1:p.length+k-p.length=k:=by omega
 have e2:p.length+k+1-p.length=k+1:=by omega
 rw[e1,e2]
theorem au2(f t fr ta:Int)(load:ByteArray):lS (kR fr ta (8+load.size)++uG f t fr ta load)=0:=by
 have e:kR fr ta (8+load.size)++uG f t fr ta load=uO (kR fr ta (8+load.size)++si f t load) 18 (Ff f t fr ta load):=by
  rw[uG,ak1];rfl
 have hlen:(kR fr ta (8+(load.size:Int))++si f t load).length=20+load.size:=by
  rw[bn6,Ud.bg8];simp[si,iy];omega
 rw[e,Ff]
 split
 ·rename_i hq
  exact aC2 _ 18 (by omega) rfl rfl rfl hq
 exact ap6 _ 18 (by omega) rfl rfl rfl
end Sp
namespace gP
open Bs Rd
theorem iU(s:ByteArray)(a0 a1 a2 a3 a4 a5 a6 a7 a8 a9 a10 a11 a12:Int)(a13:ByteArray)(k:Int)(w:fV)
  (hR:∀u:fV,f_ Vh 56 #[.string s,.func (.func 57) #[] #[]] u fun ee w'=>ee=.returned (.tuple #[.agg (rI a0 a1 a2 a3 a4 a5 a6 a7 a8 a9 a10 a11 a12 a13),.int .i64 k])/\gm u.heap.size u w'):
  f_ Vh 33 #[.string s] w fun ee w'=>ee=.returned (.tuple #[.agg (rI a0 a1 a2 a3 a4 a5 a6 a7 a8 a9 a10 a11 a12 a13),.int .i64 k])/\gm w.heap.size w w':=by
 have HR:=Fe hR;clear hR;go_enter func33,ntmps33;go_wp2_with fail;refine on_ (HR _) fun w1 hb=>?_;have hr:=(hb.block _ (by simp)).trans (bn3 w _);go_wp2_with (refine bq2 rfl 55 (.tmp 2) (.tmp 6) rfl w.heap.size _ rfl rfl 55 _ hr (by kernel_rfl) (by kernel_rfl) (by kernel_rfl) ?_);exact aC results33 rfl rfl rfl hr (fun u hu=>bq4 u _ _ _ _ _ _ hu underlying55 rfl (by kernel_rfl)) (fun q=>⟨rfl,q⟩) b1_ hb (bn7 _)
theorem Xu(s:ByteArray)(a0 a1 a2 a3 a4 a5 a6 a7 a8 a9 a10 a11 a12:Int)(a13:ByteArray)(k:Int)(w:fV)
  (hR:∀u:fV,f_ Vh 33 #[.string s] u fun ee w'=>ee=.returned (.tuple #[.agg (rI a0 a1 a2 a3 a4 a5 a6 a7 a8 a9 a10 a11 a12 a13),.int .i64 k])/\gm u.heap.size u w'):
  f_ Vh 19 #[.string s] w fun ee w'=>ee=.returned (.tuple #[.agg (rI a0 a1 a2 a3 a4 a5 a6 a7 a8 a9 a10 a11 a12 a13),.int .i64 k])/\gm w.heap.size w w':=by
 have HR:=Fe hR;clear hR;go_enter func19,ntmps19;go_wp2_with fail;refine on_ (HR _) fun w1 hb=>?_;have hr:=(hb.block _ (by simp)).trans (bn3 w _);go_wp2_with (refine bq2 rfl 55 (.tmp 2) (.tmp 6) rfl w.heap.size _ rfl rfl 55 _ hr (by kernel_rfl) (by kernel_rfl) (by kernel_rfl) ?_);exact aC results19 rfl rfl rfl hr (fun u hu=>bq4 u _ _ _ _ _ _ hu underlying55 rfl (by kernel_rfl)) (fun q=>⟨rfl,q⟩) b1_ hb (bn7 _)
end gP
namespace Uw
open Bs Rd
open gP (other gN gD gM gI)
open Ip (lS uX)
theorem zo(B:Nat)(l:List UInt8)(w:fV)(h:iL w B l)(hn:l.length<20):
  f_ Vh 59 #[p_ B] w fun ee w'=>ee=.panicked (iH 1)/\w.grownBy w' (some B):=by
 have hB:=h.lt;have hne0:w.heap.size≠B:=by omega
 have H0:=Fe (h.alloc (.cells zU_ 59));have G0:=Fe (gV (il w (some B)) (.cells zU_ 59));have R0:Hid ((w.alloc (.cells zU_ 59)).heap[w.heap.size]?=some (.cells zU_ 59 (0,0))):=bn3 w _;clear h;go_enter func59,ntmps59;go_wp2_with fail;refine on_ (vZ _ _ _ _ H0 (by omega)) fun wz hwz=>?_;exact⟨rfl,rfl,by rw[hwz];exact gB G0⟩
theorem zw(B:Nat)(a0 a1 a2 a3 a4 a5 a6 a7 a8 a9 a10 a11 a12 a13 a14 a15 a16 a17 a18 a19:UInt8)(l:List UInt8)(w:fV)(h:iL w B (a0::a1::a2::a3::a4::a5::a6::a7::a8::a9::a10::a11::a12::a13::a14::a15::a16::a17::a18::a19::l))(hs:(a0::a1::a2::a3::a4::a5::a6::a7::a8::a9::a10::a11::a12::a13::a14::a15::a16::a17::a18::a19::l).length<=maxLen)(k:Int)(hx:∀u,iL u B (a0::a1::a2::a3::a4::a5::a6::a7::a8::a9::a10::a11::a12::a13::a14::a15::a16::a17::a18::a19::l)->f_ Vh 105 #[p_ B] u fun e w'=>e=.panicked (iH k)/\u.grownBy w' (some B)):
  f_ Vh 59 #[p_ B] w fun ee w'=>ee=.panicked (iH k)/\w.grownBy w' (some B):=by
 obtain⟨s,hS⟩:∃s:ByteArray,s=⟨(a0::a1::a2::a3::a4::a5::a6::a7::a8::a9::a10::a11::a12::a13::a14::a15::a16::a17::a18::a19::l).toArray⟩:=⟨_,rfl⟩;have hz:s.size=l.length+20:=by rw[hS,gL];simp
 have hmx:(s.size:Int)<=9223372036854775807:=by rw[hz];simp only[bn5,maxLen]at hs;omega
 have hk20:(20:Int)<=(s.size:Int):=by omega
 have hB:=h.lt;have hne0:w.heap.size≠B:=by omega
 have H0:=Fe (h.alloc (.cells zU_ 59));have G0:=Fe (gV (il w (some B)) (.cells zU_ 59));have R0:Hid ((w.alloc (.cells zU_ 59)).heap[w.heap.size]?=some (.cells zU_ 59 (0,0))):=bn3 w _;have hc0:(w.alloc (.cells zU_ 59)).cell? (a_ B 0)=some (.string s):=by rw[hS];exact bp1 H0
 have hn0:(20:Int)<=((a0::a1::a2::a3::a4::a5::a6::a7::a8::a9::a10::a11::a12::a13::a14::a15::a16::a17::a18::a19::l).length:Int):=by simp only[bn5];omega
 have HN0:=Fe hn0;clear h hn0;have T1:=Fe hx;clear hx hS hz;go_enter func59,ntmps59;go_wp2_with fail;refine on_ (kQ _ _ _ _ H0 HN0) fun wz hwz=>?_;rw[hwz];clear hwz wz;go_wp2_with fail;refine on_ (T1 _ H0) fun wz gz=>?_;exact⟨rfl,rfl,gH G0 gz⟩
theorem BS(B:Nat)(a0 a1 a2 a3 a4 a5 a6 a7 a8 a9 a10 a11 a12 a13 a14 a15 a16 a17 a18 a19:UInt8)(l:List UInt8)(w:fV)(h:iL w B (a0::a1::a2::a3::a4::a5::a6::a7::a8::a9::a10::a11::a12::a13::a14::a15::a16::a17::a18::a19::l))(hs:(a0::a1::a2::a3::a4::a5::a6::a7::a8::a9::a10::a11::a12::a13::a14::a15::a16::a17::a18::a19::l).length<=maxLen)(h0:a0.toNat=69)(k:Int)(hx:∀u,iL u B (a2::a3::a4::a5::a6::a7::a8::a9::a10::a11::a12::a13::a14::a15::a16::a17::a18::a19::l)->f_ Vh 106 #[p_ B,.int .i64 20,.int .i64 ((l.length+20:Nat):Int)] u fun e w'=>e=.panicked (iH k)/\u.grownBy w' (some B)):
  f_ Vh 59 #[p_ B] w fun ee w'=>ee=.panicked (iH k)/\w.grownBy w' (some B):=by
 obtain⟨s,hS⟩:∃s:ByteArray,s=⟨(a0::a1::a2::a3::a4::a5::a6::a7::a8::a9::a10::a11::a12::a13::a14::a15::a16::a17::a18::a19::l).toArray⟩:=⟨_,rfl⟩;have hz:s.size=l.length+20:=by rw[hS,gL];simp
 have hmx:(s.size:Int)<=9223372036854775807:=by rw[hz];simp only[bn5,maxLen]at hs;omega
 have hk20:(20:Int)<=(s.size:Int):=by omega
 have hB:=h.lt;have hne0:w.heap.size≠B:=by omega
 have H0:=Fe (h.alloc (.cells zU_ 59));have G0:=Fe (gV (il w (some B)) (.cells zU_ 59));have R0:Hid ((w.alloc (.cells zU_ 59)).heap[w.heap.size]?=some (.cells zU_ 59 (0,0))):=bn3 w _;have hc0:(w.alloc (.cells zU_ 59)).cell? (a_ B 0)=some (.string s):=by rw[hS];exact bp1 H0
 have hn0:(20:Int)<=((a0::a1::a2::a3::a4::a5::a6::a7::a8::a9::a10::a11::a12::a13::a14::a15::a16::a17::a18::a19::l).length:Int):=by simp only[bn5];omega
 have HN0:=Fe hn0;clear h hn0;have T1:=Fe (fun u hu=>zz B a0 a1 (a2::a3::a4::a5::a6::a7::a8::a9::a10::a11::a12::a13::a14::a15::a16::a17::a18::a19::l) u hu hs h0);have T2:=Fe (fun u hu=>hx u hu);rw[<-hz]at T2;clear hx h0 hS hz;go_enter func59,ntmps59;go_wp2_with fail;refine on_ (kQ _ _ _ _ H0 HN0) fun wz hwz=>?_;rw[hwz];clear hwz wz;go_wp2_with fail;refine on_ (T1 _ H0) ?_;rintro w1 ⟨k1,g1⟩;have hr:w1.heap[w.heap.size]?=some (.cells zU_ 59 (0,0)):=(g1.block _ (bo2 R0) (fun q=>hne0 (by simpa using q))).trans R0;have H1:=Fe k1;have G1:=Fe (gH G0 g1);have R1:=Fe hr;clear hr k1 g1 H0 G0 R0;go_wp2_with fail;refine on_ (T2 _ H1) fun wz gz=>?_;exact⟨rfl,rfl,gH G1 gz⟩
def Gm(c x6 x8:Int)(v:Value)(ee:Ending):Prop:=if c≠0 then ee=.panicked (iH 6)else if bits .and .u16 x6 32768≠0 then ee=.panicked (iH 2)else if x8=0 then ee=.panicked (iH 2)else if bits .and .u16 x6 16383≠0 then ee=.panicked (iH 5)else ee=.returned v
section
variable{c x6 x8:Int} {v:Value}
theorem S_(h:c≠0):Gm c x6 x8 v (.panicked (iH 6)):=by unfold Gm;rw[bp0 h]
theorem TB(h:bits .and .u16 x6 32768≠0):Gm 0 x6 x8 v (.panicked (iH 2)):=by unfold Gm;rw[bo4 (by simp),bp0 h]
theorem bm1(h:bits .and .u16 x6 32768=0):Gm 0 x6 0 v (.panicked (iH 2)):=by unfold Gm;rw[bo4 (by simp),bo4 (by simpa using h),bp0 rfl]
theorem Sw(h:bits .and .u16 x6 32768=0)(ht:x8≠0)(hp:bits .and .u16 x6 16383≠0):Gm 0 x6 x8 v (.panicked (iH 5)):=by unfold Gm;rw[bo4 (by simp),bo4 (by simpa using h),bo4 ht,bp0 hp]
theorem Ru(h:bits .and .u16 x6 32768=0)(ht:x8≠0)(hp:bits .and .u16 x6 16383=0):Gm 0 x6 x8 v (.returned v):=by unfold Gm;rw[bo4 (by simp),bo4 (by simpa using h),bo4 ht,bo4 (by simpa using hp)]
end
theorem Ql{u:fV}{g:Nat}{t:TypeId}{b0 b1 b2 b3 b4 b5:Value}(h:u.heap[g]?=some (.cells #[b0,b1,b2,b3,b4,b5] t (0,0))):u.cell? (a_ g 0)=some b0/\u.cell? (a_ g 1)=some b1/\u.cell? (a_ g 2)=some b2/\u.cell? (a_ g 3)=some b3/\u.cell? (a_ g 4)=some b4/\u.cell? (a_ g 5)=some b5:=by
 have q:=fun j=>bn0 u g j _ _ _ h;exact⟨q 0,q 1,q 2,q 3,q 4,q 5⟩
theorem wE(B:Nat)(a0 a1 a2 a3 a4 a5 a6 a7 a8 a9 a10 a11 a12 a13 a14 a15 a16 a17 a18 a19:UInt8)(l:List UInt8)(w:fV)(h:iL w B (a0::a1::a2::a3::a4::a5::a6::a7::a8::a9::a10::a11::a12::a13::a14::a15::a16::a17::a18::a19::l))(hs:(a0::a1::a2::a3::a4::a5::a6::a7::a8::a9::a10::a11::a12::a13::a14::a15::a16::a17::a18::a19::l).length<=maxLen)(h0:a0.toNat=69)(k:Nat)(hn:(256*(a2.toNat:Int)+(a3.toNat:Int))=20+(k:Int))(hk:k<=l.length)(hL:l.length<=1099511627776):
  f_ Vh 59 #[p_ B] w fun ee w'=>Gm (lS [a0,a1,a2,a3,a4,a5,a6,a7,a8,a9,a10,a11,a12,a13,a14,a15,a16,a17,a18,a19]) (256*(a6.toNat:Int)+(a7.toNat:Int)) (a8.toNat:Int) (.agg (rU (256*(a4.toNat:Int)+(a5.toNat:Int)) (a8.toNat:Int) (a9.toNat:Int) (16777216*(a12.toNat:Int)+65536*(a13.toNat:Int)+256*(a14.toNat:Int)+(a15.toNat:Int)) (16777216*(a16.toNat:Int)+65536*(a17.toNat:Int)+256*(a18.toNat:Int)+(a19.toNat:Int)) ⟨(l.take k).toArray⟩)) ee/\w.grownBy w' (some B):=by
 obtain⟨s,hS⟩:∃s:ByteArray,s=⟨(a0::a1::a2::a3::a4::a5::a6::a7::a8::a9::a10::a11::a12::a13::a14::a15::a16::a17::a18::a19::l).toArray⟩:=⟨_,rfl⟩;have hz:s.size=l.length+20:=by rw[hS,gL];simp
 have hmx:(s.size:Int)<=9223372036854775807:=by rw[hz];simp only[bn5,maxLen]at hs;omega
 have hk20:(20:Int)<=(s.size:Int):=by omega
 have hB:=h.lt;have hne0:w.heap.size≠B:=by omega
 have H0:=Fe (h.alloc (.cells zU_ 59));have G0:=Fe (gV (il w (some B)) (.cells zU_ 59));have R0:Hid ((w.alloc (.cells zU_ 59)).heap[w.heap.size]?=some (.cells zU_ 59 (0,0))):=bn3 w _;have hc0:(w.alloc (.cells zU_ 59)).cell? (a_ B 0)=some (.string s):=by rw[hS];exact bp1 H0
 have hn0:(20:Int)<=((a0::a1::a2::a3::a4::a5::a6::a7::a8::a9::a10::a11::a12::a13::a14::a15::a16::a17::a18::a19::l).length:Int):=by simp only[bn5];omega
 have HN0:=Fe hn0;clear h hn0;have T1:=Fe (fun u hu=>zz B a0 a1 (a2::a3::a4::a5::a6::a7::a8::a9::a10::a11::a12::a13::a14::a15::a16::a17::a18::a19::l) u hu hs h0);have T2:=(fun u hu=>uj B a2 a3 (a4::a5::a6::a7::a8::a9::a10::a11::a12::a13::a14::a15::a16::a17::a18::a19::l) 20 (s.size:Int) u hu (by simp only[bn5,maxLen]at hs ⊢;omega) (by omega) (by omega));rw[hn]at T2;have T2:=Fe T2;have TC:=(fun u=>pQ.uW (s.extract 0 20) u (by rw[bB4];omega));have ec:65535-pQ.fold (pQ.jL (s.extract 0 20).data.toList)=lS [a0,a1,a2,a3,a4,a5,a6,a7,a8,a9,a10,a11,a12,a13,a14,a15,a16,a17,a18,a19]:=by
  rw[hS,iX];simp[lS]
 obtain⟨c,hc⟩:=ex_ (lS [a0,a1,a2,a3,a4,a5,a6,a7,a8,a9,a10,a11,a12,a13,a14,a15,a16,a17,a18,a19]);rw[ec,<-hc]at TC;rw[<-hc];have TC:=Fe TC;have T3:=Fe (fun u hu=>jo B a4 a5 (a6::a7::a8::a9::a10::a11::a12::a13::a14::a15::a16::a17::a18::a19::l) u hu (by simp only[bn5,maxLen]at hs ⊢;omega));have T4:=Fe (fun u hu=>jo B a6 a7 (a8::a9::a10::a11::a12::a13::a14::a15::a16::a17::a18::a19::l) u hu (by simp only[bn5,maxLen]at hs ⊢;omega));have T5:=Fe (fun u hu=>ky B a8 (a9::a10::a11::a12::a13::a14::a15::a16::a17::a18::a19::l) u hu (by simp only[bn5,maxLen]at hs ⊢;omega));obtain⟨x4,hx4⟩:=ex_ ((256*(a4.toNat:Int)+(a5.toNat:Int)));obtain⟨x6,hx6⟩:=ex_ ((256*(a6.toNat:Int)+(a7.toNat:Int)));obtain⟨x8,hx8⟩:=ex_ ((a8.toNat:Int));rw[<-hx4]at T3;rw[<-hx6]at T4 ⊢;rw[<-hx8]at T5 ⊢;have T6:=Fe (fun u hu=>ky B a9 (a10::a11::a12::a13::a14::a15::a16::a17::a18::a19::l) u hu (by simp only[bn5,maxLen]at hs ⊢;omega));have T7:=Fe (fun u hu=>jo B a10 a11 (a12::a13::a14::a15::a16::a17::a18::a19::l) u hu (by simp only[bn5,maxLen]at hs ⊢;omega));have T8:=Fe (fun u hu=>jg B a12 a13 a14 a15 (a16::a17::a18::a19::l) u hu (by simp only[bn5,maxLen]at hs ⊢;omega));have T9:=Fe (fun u hu=>jg B a16 a17 a18 a19 l u hu (by simp only[bn5,maxLen]at hs ⊢;omega));have T10:=Fe (fun u hu=>za B l k u hu (by omega) (by omega));obtain⟨x9,hx9⟩:=ex_ ((a9.toNat:Int));obtain⟨x12,hx12⟩:=ex_ ((16777216*(a12.toNat:Int)+65536*(a13.toNat:Int)+256*(a14.toNat:Int)+(a15.toNat:Int)));obtain⟨x16,hx16⟩:=ex_ ((16777216*(a16.toNat:Int)+65536*(a17.toNat:Int)+256*(a18.toNat:Int)+(a19.toNat:Int)));rw[<-hx9]at T6 ⊢;rw[<-hx12]at T8 ⊢;rw[<-hx16]at T9 ⊢;rw[<-hx4];have hq:IntKind.i64.wrap (20+(k:Int)-20)=(k:Int):=by rw[wrap_i64 _ (by omega) (by omega)];omega
 have hq2:(20+(k:Int)-20)=(k:Int):=by omega
 clear hx9 hx12 hx16;clear hx4 hx6 hx8;clear hS hz ec hc h0 hn;go_enter func59,ntmps59;go_wp2_with fail;refine on_ (kQ _ _ _ _ H0 HN0) fun wz hwz=>?_;rw[hwz];clear hwz wz;go_wp2_with fail;refine on_ (T1 _ H0) ?_;rintro w1 ⟨k1,g1⟩;have hr:w1.heap[w.heap.size]?=some (.cells zU_ 59 (0,0)):=(g1.block _ (bo2 R0) (fun q=>hne0 (by simpa using q))).trans R0;have H1:=Fe k1;have G1:=Fe (gH G0 g1);have R1:=Fe hr;clear hr k1 g1 H0 G0 R0;go_wp2_with fail;refine on_ (T2 _ H1) ?_;rintro w2 ⟨k2,g2⟩;have hr:w2.heap[w.heap.size]?=some (.cells zU_ 59 (0,0)):=(g2.block _ (bo2 R1) (fun q=>hne0 (by simpa using q))).trans R1;have H2:=Fe k2;have G2:=Fe (gH G1 g2);have R2:=Fe hr;clear hr k2 g2 H1 G1 R1;go_wp2_with fail;refine on_ (TC _) fun wz hwz=>?_;rw[hwz];clear hwz wz
 by_cases hsum:c=0
 case neg=>
  have hcn:(c==0)=false:=by simpa using hsum
  go_wp2_with fail;refine on_ (iR _ (by first|exact hcn|simp|simpa using hsum) _ _) fun wz hwz=>?_;exact⟨rfl,S_ hsum,by rw[hwz];exact gB G2⟩
 subst hsum;go_wp2_with fail;refine on_ (jD _ (by simp) _ _) fun wz hwz=>?_;rw[hwz];clear hwz wz;have S3:=Fe (VS.make hB H2 G2 R2);clear H2 G2 R2;go_wp2_with fail;refine on_ (T3 _ S3.D8) ?_;rintro w4 ⟨k1,g1⟩;have S4:=Fe (S3.next k1 g1);have S5:=Fe (S4.sets [(0,.int .u16 x4)] (cs':=(rU x4 0 0 0 0 ⟨#[]⟩)) rfl);have x_4:=gP.gD S4.var (j:=0) rfl;have f1:=S4.free.1;clear k1 g1 S3 S4;go_wp2_with fail;refine on_ (T4 _ S5.D8) ?_;rintro w5 ⟨k1,g1⟩;have S6:=Fe (S5.next k1 g1);clear k1 g1 S5;clear x_4 f1;go_wp2_with fail;refine on_ (T5 _ S6.D8) ?_;rintro w6 ⟨k1,g1⟩;have S7:=Fe (S6.next k1 g1);have S8:=Fe (S7.sets [(1,.int .u8 x8)] (cs':=(rU x4 x8 0 0 0 ⟨#[]⟩)) rfl);have x_6:=gP.gD S7.var (j:=1) rfl;have f1:=S7.free.1;clear k1 g1 S6 S7;have cT:=gP.gD S8.var (j:=1) rfl;simp only[N8]at cT
 by_cases hf:bits .and .u16 x6 32768=0
 case neg=>
  have hfn:(bits .and .u16 x6 32768==0)=false:=by simpa using hf
  go_wp2_with fail;refine on_ (iR _ (by simp) _ _) fun wz hwz=>?_;exact⟨rfl,TB hf,by rw[hwz];exact S8.grown⟩
 by_cases ht:x8=0
 case pos=>
  subst ht;go_wp2_with fail;refine on_ (iR _ (by simp) _ _) fun wz hwz=>?_;exact⟨rfl,bm1 hf,by rw[hwz];exact S8.grown⟩
 have htn:(x8==0)=false:=by simpa using ht
 go_wp2_with fail;refine on_ (jD _ (by simpa using ht) _ _) fun wz hwz=>?_;rw[hwz];clear hwz wz
 by_cases hp:bits .and .u16 x6 16383=0
 case neg=>
  have hpn:(bits .and .u16 x6 16383==0)=false:=by simpa using hp
  go_wp2_with fail;refine on_ (iR _ (by simp) _ _) fun wz hwz=>?_;exact⟨rfl,Sw hf ht hp,by rw[hwz];exact S8.grown⟩
 go_wp2_with fail;refine on_ (jD _ (by simp) _ _) fun wz hwz=>?_;rw[hwz];clear hwz wz cT x_6 f1;go_wp2_with fail;refine on_ (T6 _ S8.D8) ?_;rintro w7 ⟨k1,g1⟩;have S9:=Fe (S8.next k1 g1);have S10:=Fe (S9.sets [(2,.int .u8 x9)] (cs':=(rU x4 x8 x9 0 0 ⟨#[]⟩)) rfl);have x_7:=gP.gD S9.var (j:=2) rfl;have f1:=S9.free.1;clear k1 g1 S8 S9;go_wp2_with fail;refine on_ (T7 _ S10.D8) ?_;rintro w8 ⟨k1,g1⟩;have S11:=Fe (S10.next k1 g1);clear k1 g1 S10;clear x_7 f1;go_wp2_with fail;refine on_ (T8 _ S11.D8) ?_;rintro w9 ⟨k1,g1⟩;have S12:=Fe (S11.next k1 g1);have S13:=Fe (S12.sets [(3,.int .u32 x12)] (cs':=(rU x4 x8 x9 x12 0 ⟨#[]⟩)) rfl);have x_9:=gP.gD S12.var (j:=3) rfl;have f1:=S12.free.1;clear k1 g1 S11 S12;go_wp2_with fail;refine on_ (T9 _ S13.D8) ?_;rintro w10 ⟨k1,g1⟩;have S14:=Fe (S13.next k1 g1);have S15:=Fe (S14.sets [(4,.int .u32 x16)] (cs':=(rU x4 x8 x9 x12 x16 ⟨#[]⟩)) rfl);clear x_9 f1;have x_10:=gP.gD S14.var (j:=4) rfl;have f1:=S14.free.1;clear k1 g1 S13 S14;go_wp2_with fail;refine on_ (T10 _ S15.D8) ?_;rintro w11 ⟨k1,g1⟩;clear x_10 f1;have S16:=Fe (S15.next k1 g1);have HG:=Fe ((S16.set 5 (.string ⟨(l.take k).toArray⟩)).done [(0,.int .u16 x4),(1,.int .u8 x8),(2,.int .u8 x9),(3,.int .u32 x12),(4,.int .u32 x16),(5,.string ⟨(l.take k).toArray⟩)]);obtain⟨x0,x1,x2,x3,x4',x5⟩:=Ql S16.var;obtain⟨y0,y1,y2,y3,y4,y5⟩:=Ql S16.res;obtain⟨f1,f2⟩:=S16.free;have hlt0:=S16.lv;have hneV:w2.heap.size≠B:=by have:=S16.lo;omega
 clear k1 g1 S15 S16;have HP:=Fe (And.intro hf (And.intro ht hp));clear hf ht hp htn;go_wp2;refine bq9 (v:=.agg (rU x4 x8 x9 x12 x16 ⟨(l.take k).toArray⟩)) (by simp[results,results59,go_sem,y0,y1,y2,y3,y4,y5]) rfl ?_;exact⟨Ru HP.1 HP.2.1 HP.2.2,HG⟩
section
variable(B:Nat) (a0 a1 a2 a3 a4 a5 a6 a7 a8 a9 a10 a11 a12 a13 a14 a15 a16 a17 a18 a19:UInt8) (l:List UInt8) (w:fV) (h:iL w B (a0::a1::a2::a3::a4::a5::a6::a7::a8::a9::a10::a11::a12::a13::a14::a15::a16::a17::a18::a19::l)) (hs:(a0::a1::a2::a3::a4::a5::a6::a7::a8::a9::a10::a11::a12::a13::a14::a15::a16::a17::a18::a19::l).length≤maxLen) (h0:a0.toNat=69) (k:Nat) (hn:(256*(a2.toNat:Int)+(a3.toNat:Int))=20+(k:Int)) (hk:k≤l.length) (hL:l.length≤1099511627776)
include h hs h0 hn hk hL
theorem IU(hsum:lS [a0,a1,a2,a3,a4,a5,a6,a7,a8,a9,a10,a11,a12,a13,a14,a15,a16,a17,a18,a19]≠0):f_ Vh 59 #[p_ B] w fun ee w'=>ee=.panicked (iH 6)/\w.grownBy w' (some B):=(wE B a0 a1 a2 a3 a4 a5 a6 a7 a8 a9 a10 a11 a12 a13 a14 a15 a16 a17 a18 a19 l w h hs h0 k hn hk hL).mono fun ee _ q=>⟨by have q:=q.1;unfold Gm at q;rwa [bp0 hsum]at q,q.2⟩
theorem CR(hsum:lS [a0,a1,a2,a3,a4,a5,a6,a7,a8,a9,a10,a11,a12,a13,a14,a15,a16,a17,a18,a19]=0)(hf:bits .and .u16 (256*(a6.toNat:Int)+(a7.toNat:Int)) 32768≠0):f_ Vh 59 #[p_ B] w fun ee w'=>ee=.panicked (iH 2)/\w.grownBy w' (some B):=(wE B a0 a1 a2 a3 a4 a5 a6 a7 a8 a9 a10 a11 a12 a13 a14 a15 a16 a17 a18 a19 l w h hs h0 k hn hk hL).mono fun ee _ q=>⟨by have q:=q.1;unfold Gm at q;rwa [bo4 (by simpa using hsum),bp0 hf]at q,q.2⟩
theorem GG(hsum:lS [a0,a1,a2,a3,a4,a5,a6,a7,a8,a9,a10,a11,a12,a13,a14,a15,a16,a17,a18,a19]=0)(hf:bits .and .u16 (256*(a6.toNat:Int)+(a7.toNat:Int)) 32768=0)(ht:(a8.toNat:Int)=0):f_ Vh 59 #[p_ B] w fun ee w'=>ee=.panicked (iH 2)/\w.grownBy w' (some B):=(wE B a0 a1 a2 a3 a4 a5 a6 a7 a8 a9 a10 a11 a12 a13 a14 a15 a16 a17 a18 a19 l w h hs h0 k hn hk hL).mono fun ee _ q=>⟨by have q:=q.1;unfold Gm at q;rwa [bo4 (by simpa using hsum),bo4 (by simpa using hf),bp0 ht]at q,q.2⟩
theorem C8(hsum:lS [a0,a1,a2,a3,a4,a5,a6,a7,a8,a9,a10,a11,a12,a13,a14,a15,a16,a17,a18,a19]=0)(hf:bits .and .u16 (256*(a6.toNat:Int)+(a7.toNat:Int)) 32768=0)(ht:(a8.toNat:Int)≠0)(hp:bits .and .u16 (256*(a6.toNat:Int)+(a7.toNat:Int)) 16383≠0):f_ Vh 59 #[p_ B] w fun ee w'=>ee=.panicked (iH 5)/\w.grownBy w' (some B):=(wE B a0 a1 a2 a3 a4 a5 a6 a7 a8 a9 a10 a11 a12 a13 a14 a15 a16 a17 a18 a19 l w h hs h0 k hn hk hL).mono fun ee _ q=>⟨by have q:=q.1;unfold Gm at q;rwa [bo4 (by simpa using hsum),bo4 (by simpa using hf),bo4 ht,bp0 hp]at q,q.2⟩
theorem NT(hsum:lS [a0,a1,a2,a3,a4,a5,a6,a7,a8,a9,a10,a11,a12,a13,a14,a15,a16,a17,a18,a19]=0)(hf:bits .and .u16 (256*(a6.toNat:Int)+(a7.toNat:Int)) 32768=0)(ht:(a8.toNat:Int)≠0)(hp:bits .and .u16 (256*(a6.toNat:Int)+(a7.toNat:Int)) 16383=0):f_ Vh 59 #[p_ B] w fun ee w'=>ee=.returned (.agg (rU (256*(a4.toNat:Int)+(a5.toNat:Int)) (a8.toNat:Int) (a9.toNat:Int) (16777216*(a12.toNat:Int)+65536*(a13.toNat:Int)+256*(a14.toNat:Int)+(a15.toNat:Int)) (16777216*(a16.toNat:Int)+65536*(a17.toNat:Int)+256*(a18.toNat:Int)+(a19.toNat:Int)) ⟨(l.take k).toArray⟩))/\w.grownBy w' (some B):=(wE B a0 a1 a2 a3 a4 a5 a6 a7 a8 a9 a10 a11 a12 a13 a14 a15 a16 a17 a18 a19 l w h hs h0 k hn hk hL).mono fun ee _ q=>⟨by have q:=q.1;unfold Gm at q;rwa [bo4 (by simpa using hsum),bo4 (by simpa using hf),bo4 ht,bo4 (by simpa using hp)]at q,q.2⟩
end
end Uw
namespace Uw
open Bs Rd
open gP (jf kT blocks gD gM gI jk iG jE)
theorem je(s:ByteArray)(k:Int)(w:fV)
  (hR:∀u B,iL u B s.data.toList->(∀b o,b<w.heap.size->u.cell? (a_ b o)=w.cell? (a_ b o))->f_ Vh 59 #[p_ B] u fun ee w'=>ee=.panicked (iH k)/\u.grownBy w' (some B)):
  f_ Vh 58 #[.string s,.func (.func 59) #[] #[]] w fun ee w'=>ee=.returned (.tuple #[.agg zU_,.int .i64 k])/\gm w.heap.size w w':=by
 have hmf:=hmf_;have HR:=Fe hR;clear hR;go_enter_defers func58,ntmps58
 go_wp2_with fail;refine on_ (HR _ _ (iG _ _ s (by simp)) (fun b o hb=>b3_.cell (p:=(a_ b o)) hb)) fun w1 g1=>?_;obtain⟨hr,he⟩:=blocks g1 rfl;refine bt9 (f:=103) (args:=#[p_ (w.heap.size+1)]) (by simp) (by simp[go_sem]) ?_;refine(jf func103 (by kernel_rfl) (by kernel_rfl) (by kernel_rfl) (a_ (w.heap.size+1) 0) 0 k [] _ (bp1 he) (br2 he)).mono ?_;rintro e u' w'' ⟨rfl,rfl,rfl⟩;exact⟨_,aL results58 rfl rfl hr he (fun u hu=>bq4 u _ _ _ _ _ _ hu underlying59 rfl (by kernel_rfl)),rfl,(jk g1 b3_ (by omega)).setCell (by simp) _⟩
theorem nK(s:ByteArray)(a0 a1 a2 a3 a4:Int)(a5:ByteArray)(w:fV)
  (hR:∀u B,iL u B s.data.toList->(∀b o,b<w.heap.size->u.cell? (a_ b o)=w.cell? (a_ b o))->f_ Vh 59 #[p_ B] u fun ee w'=>ee=.returned (.agg (rU a0 a1 a2 a3 a4 a5))/\u.grownBy w' (some B)):
  f_ Vh 58 #[.string s,.func (.func 59) #[] #[]] w fun ee w'=>ee=.returned (.tuple #[.agg (rU a0 a1 a2 a3 a4 a5),.int .i64 0])/\gm w.heap.size w w':=by
 have hmf:=hmf_;have HR:=Fe hR;clear hR;go_enter_defers func58,ntmps58
 go_wp2_with fail;refine on_ (HR _ _ (iG _ _ s (by simp)) (fun b o hb=>b3_.cell (p:=(a_ b o)) hb)) fun w1 g1=>?_;obtain⟨hr,he⟩:=blocks g1 rfl;have HB:=Fe (jk g1 b3_ (by omega));have hc:=fun cs=>bp1 ((bt0 w1 w.heap.size _ cs (by omega)).trans he);have hf:=fun cs=>br2 ((bt0 w1 w.heap.size _ cs (by omega)).trans he);go_wp2_with (refine bq2 rfl 59 (.tmp 4) (.tmp 11) rfl w.heap.size _ rfl rfl 59 _ hr (by kernel_rfl) (by kernel_rfl) (by kernel_rfl) ?_);refine bt9 (f:=103) (args:=#[p_ (w.heap.size+1)]) (by simp) (by simp[go_sem]) ?_;refine(kT func103 (by kernel_rfl) (by kernel_rfl) (by kernel_rfl) (a_ (w.heap.size+1) 0) _).mono ?_;rintro e u' w'' ⟨rfl,rfl,rfl⟩;exact⟨_,aQ results58 rfl rfl hr he (fun u hu=>bq4 u _ _ _ _ _ _ hu underlying59 rfl (by kernel_rfl)),rfl,(aD HB (bn7 _) _).setCell (by simp) _⟩
theorem iU(s:ByteArray)(a0 a1 a2 a3 a4:Int)(a5:ByteArray)(k:Int)(w:fV)
  (hR:∀u:fV,f_ Vh 58 #[.string s,.func (.func 59) #[] #[]] u fun ee w'=>ee=.returned (.tuple #[.agg (rU a0 a1 a2 a3 a4 a5),.int .i64 k])/\gm u.heap.size u w'):
  f_ Vh 34 #[.string s] w fun ee w'=>ee=.returned (.tuple #[.agg (rU a0 a1 a2 a3 a4 a5),.int .i64 k])/\gm w.heap.size w w':=by
 have HR:=Fe hR;clear hR;go_enter func34,ntmps34;go_wp2_with fail;refine on_ (HR _) fun w1 hb=>?_;have hr:=(hb.block _ (by simp)).trans (bn3 w _);go_wp2_with (refine bq2 rfl 59 (.tmp 2) (.tmp 6) rfl w.heap.size _ rfl rfl 59 _ hr (by kernel_rfl) (by kernel_rfl) (by kernel_rfl) ?_);exact aC results34 rfl rfl rfl hr (fun u hu=>bq4 u _ _ _ _ _ _ hu underlying59 rfl (by kernel_rfl)) (fun q=>⟨rfl,q⟩) b1_ hb (bn7 _)
theorem Xu(s:ByteArray)(a0 a1 a2 a3 a4:Int)(a5:ByteArray)(k:Int)(w:fV)
  (hR:∀u:fV,f_ Vh 34 #[.string s] u fun ee w'=>ee=.returned (.tuple #[.agg (rU a0 a1 a2 a3 a4 a5),.int .i64 k])/\gm u.heap.size u w'):
  f_ Vh 20 #[.string s] w fun ee w'=>ee=.returned (.tuple #[.agg (rU a0 a1 a2 a3 a4 a5),.int .i64 k])/\gm w.heap.size w w':=by
 have HR:=Fe hR;clear hR;go_enter func20,ntmps20;go_wp2_with fail;refine on_ (HR _) fun w1 hb=>?_;have hr:=(hb.block _ (by simp)).trans (bn3 w _);go_wp2_with (refine bq2 rfl 59 (.tmp 2) (.tmp 6) rfl w.heap.size _ rfl rfl 59 _ hr (by kernel_rfl) (by kernel_rfl) (by kernel_rfl) ?_);exact aC results20 rfl rfl rfl hr (fun u hu=>bq4 u _ _ _ _ _ _ hu underlying59 rfl (by kernel_rfl)) (fun q=>⟨rfl,q⟩) b1_ hb (bn7 _)
end Uw
namespace Uy
open Bs Rd Lt
open Ip (lS uX)
open Go.Proofs.YtdgacidndknceaaGreatDoor.Uw
theorem zX(s:ByteArray)(L:List UInt8)(hL:s.data.toList=L)(w:fV)(hm:s.size<=262144):
  f_ Vh 34 #[.string s] w fun ee w'=>ee=.returned (.tuple #[.agg (rU (xX L (w2 L 4)) (xX L (bt L 8)) (xX L (bt L 9)) (xX L (w4 L 12)) (xX L (w4 L 16)) (AA L)),.int .i64 (Co L)])/\gm w.heap.size w w':=by
 have hl:=jc s;rw[hL]at hl;have E:∀k,Co L=k->k≠0->(∀u:fV,f_ Vh 34 #[.string s] u fun ee w'=>ee=.returned (.tuple #[.agg zU_,.int .i64 k])/\gm u.heap.size u w')->
   f_ Vh 34 #[.string s] w fun ee w'=>ee=.returned (.tuple #[.agg (rU (xX L (w2 L 4)) (xX L (bt L 8)) (xX L (bt L 9)) (xX L (w4 L 12)) (xX L (w4 L 16)) (AA L)),.int .i64 (Co L)])/\gm w.heap.size w w':=by
  intro k h0 h1 h2;rw[nJ h0 h1,nJ h0 h1,nJ h0 h1,nJ h0 h1,nJ h0 h1,EN h0 h1,h0];exact h2 w
 by_cases hn:L.length<20
 ·exact E 1 (by unfold Co;rw[bp0 hn]) (by decide) (fun u=>iU s 0 0 0 0 0 ⟨#[]⟩ 1 u (fun u=>je s 1 u (fun u B h _=>by rw[hL]at h;exact zo B L u h hn)))
 obtain⟨a0,a1,a2,a3,a4,a5,a6,a7,a8,a9,a10,a11,a12,a13,a14,a15,a16,a17,a18,a19,r,hlist⟩:=twenty L (by omega);have heta:=mQ s;rw[hL]at heta;have b0:bt L 0=(a0.toNat:Int):=by rw[hlist];rfl
 have b2:w2 L 2=(256*(a2.toNat:Int)+(a3.toNat:Int)):=by rw[hlist];rfl
 have b6:w2 L 6=(256*(a6.toNat:Int)+(a7.toNat:Int)):=by rw[hlist];rfl
 have b8:bt L 8=(a8.toNat:Int):=by rw[hlist];rfl
 have tk:L.take 20=[a0,a1,a2,a3,a4,a5,a6,a7,a8,a9,a10,a11,a12,a13,a14,a15,a16,a17,a18,a19]:=by rw[hlist];rfl
 have dr:L.drop 20=r:=by rw[hlist];rfl
 have ln:L.length=r.length+20:=by rw[hlist];simp
 have hml:(a0::a1::a2::a3::a4::a5::a6::a7::a8::a9::a10::a11::a12::a13::a14::a15::a16::a17::a18::a19::r).length<=maxLen:=by rw[<-hlist];unfold maxLen;omega
 have p0:=a0.toNat_lt;have hK:Co L=if bt L 0/16≠4∨bt L 0%16<5 then 2 else if 5<bt L 0%16 then 4
   else if w2 L 2<20 then 2 else if((L.length:Nat):Int)<w2 L 2 then 1 else if lS (L.take 20)≠0 then 6
   else if 32768<=w2 L 6∨bt L 8=0 then 2 else if w2 L 6%16384≠0 then 5 else 0:=by unfold Co;rw[bo4 hn]
 rw[b0,b2,b6,b8,tk,ln]at hK
 by_cases h1:a0.toNat/16=4
 ·by_cases h2:a0.toNat%16<5
  ·rw[bp0 (by omega)]at hK
   exact E 2 hK (by decide) (fun u=>iU s 0 0 0 0 0 ⟨#[]⟩ 2 u (fun u=>je s 2 u (fun u B h _=>by rw[hL,hlist]at h;exact zw B a0 a1 a2 a3 a4 a5 a6 a7 a8 a9 a10 a11 a12 a13 a14 a15 a16 a17 a18 a19 r u h hml 2 (fun u hu=>Gj B _ _ _ u hu hml h1 h2))))
  rw[bo4 (by omega)]at hK
  by_cases h3:5<a0.toNat%16
  ·rw[bp0 (by omega)]at hK
   exact E 4 hK (by decide) (fun u=>iU s 0 0 0 0 0 ⟨#[]⟩ 4 u (fun u=>je s 4 u (fun u B h _=>by rw[hL,hlist]at h;exact zw B a0 a1 a2 a3 a4 a5 a6 a7 a8 a9 a10 a11 a12 a13 a14 a15 a16 a17 a18 a19 r u h hml 4 (fun u hu=>F7 B _ _ _ u hu hml h1 h3))))
  have h69:a0.toNat=69:=by omega
  rw[bo4 (by omega)]at hK
  by_cases h4:(256*(a2.toNat:Int)+(a3.toNat:Int))<20
  ·rw[bp0 h4]at hK
   exact E 2 hK (by decide) (fun u=>iU s 0 0 0 0 0 ⟨#[]⟩ 2 u (fun u=>je s 2 u (fun u B h _=>by rw[hL,hlist]at h;exact BS B a0 a1 a2 a3 a4 a5 a6 a7 a8 a9 a10 a11 a12 a13 a14 a15 a16 a17 a18 a19 r u h hml h69 2 (fun u hu=>yn B _ _ _ _ _ u hu (by simp only[bn5]at hml ⊢;unfold maxLen at hml ⊢;omega) (by omega)))))
  rw[bo4 h4]at hK
  by_cases h5:((r.length+20:Nat):Int)<(256*(a2.toNat:Int)+(a3.toNat:Int))
  ·rw[bp0 h5]at hK
   exact E 1 hK (by decide) (fun u=>iU s 0 0 0 0 0 ⟨#[]⟩ 1 u (fun u=>je s 1 u (fun u B h _=>by rw[hL,hlist]at h;exact BS B a0 a1 a2 a3 a4 a5 a6 a7 a8 a9 a10 a11 a12 a13 a14 a15 a16 a17 a18 a19 r u h hml h69 1 (fun u hu=>wo B _ _ _ _ _ u hu (by simp only[bn5]at hml ⊢;unfold maxLen at hml ⊢;omega) (by omega) (by omega)))))
  rw[bo4 h5]at hK;obtain⟨k,hk⟩:∃k:Nat,(256*(a2.toNat:Int)+(a3.toNat:Int))=20+(k:Int):=⟨((256*(a2.toNat:Int)+(a3.toNat:Int))-20).toNat,by omega⟩;have hkr:k<=r.length:=by omega
  by_cases h6:lS [a0,a1,a2,a3,a4,a5,a6,a7,a8,a9,a10,a11,a12,a13,a14,a15,a16,a17,a18,a19]=0
  ·rw[bo4 (fun q=>q h6)]at hK
   by_cases h7:32768<=(256*(a6.toNat:Int)+(a7.toNat:Int))
   ·rw[bp0 (bo1 h7)]at hK
    exact E 2 hK (by decide) (fun u=>iU s 0 0 0 0 0 ⟨#[]⟩ 2 u (fun u=>je s 2 u (fun u B h _=>by rw[hL,hlist]at h;exact CR B a0 a1 a2 a3 a4 a5 a6 a7 a8 a9 a10 a11 a12 a13 a14 a15 a16 a17 a18 a19 r u h hml h69 k hk hkr (by omega) h6 (fun q=>h7|>fun h7=>by rw[wL]at q;omega))))
   by_cases h8:(a8.toNat:Int)=0
   ·rw[bp0 (bo3 h8)]at hK
    exact E 2 hK (by decide) (fun u=>iU s 0 0 0 0 0 ⟨#[]⟩ 2 u (fun u=>je s 2 u (fun u B h _=>by rw[hL,hlist]at h;exact GG B a0 a1 a2 a3 a4 a5 a6 a7 a8 a9 a10 a11 a12 a13 a14 a15 a16 a17 a18 a19 r u h hml h69 k hk hkr (by omega) h6 ((wL _ _).2 (by omega)) h8)))
   rw[bo4 (by omega)]at hK
   by_cases h9:(256*(a6.toNat:Int)+(a7.toNat:Int))%16384=0
   ·rw[bo4 (fun q=>q h9)]at hK
    have e5:AA L=⟨(r.take k).toArray⟩:=by rw[I_ hK,dr,b2,hk];congr 3;omega
    rw[pX hK,pX hK,pX hK,pX hK,pX hK,e5,hK];have b4:w2 L 4=(256*(a4.toNat:Int)+(a5.toNat:Int)):=by rw[hlist];rfl
    have b9:bt L 9=(a9.toNat:Int):=by rw[hlist];rfl
    have b12:w4 L 12=(16777216*(a12.toNat:Int)+65536*(a13.toNat:Int)+256*(a14.toNat:Int)+(a15.toNat:Int)):=by rw[hlist];rfl
    have b16:w4 L 16=(16777216*(a16.toNat:Int)+65536*(a17.toNat:Int)+256*(a18.toNat:Int)+(a19.toNat:Int)):=by rw[hlist];rfl
    rw[b4,b8,b9,b12,b16];refine iU s _ _ _ _ _ _ 0 w (fun u=>nK s _ _ _ _ _ _ u (fun u B h _=> ?_));rw[hL,hlist]at h;exact NT B a0 a1 a2 a3 a4 a5 a6 a7 a8 a9 a10 a11 a12 a13 a14 a15 a16 a17 a18 a19 r u h hml h69 k hk hkr (by omega) h6 ((wL _ _).2 (by omega)) h8 ((FQ _ _).2 h9)
   rw[bp0 h9]at hK;exact E 5 hK (by decide) (fun u=>iU s 0 0 0 0 0 ⟨#[]⟩ 5 u (fun u=>je s 5 u (fun u B h _=>by rw[hL,hlist]at h;exact C8 B a0 a1 a2 a3 a4 a5 a6 a7 a8 a9 a10 a11 a12 a13 a14 a15 a16 a17 a18 a19 r u h hml h69 k hk hkr (by omega) h6 ((wL _ _).2 (by omega)) h8 (fun q=>h9 ((FQ _ _).1 q)))))
  rw[bp0 h6]at hK;exact E 6 hK (by decide) (fun u=>iU s 0 0 0 0 0 ⟨#[]⟩ 6 u (fun u=>je s 6 u (fun u B h _=>by rw[hL,hlist]at h;exact IU B a0 a1 a2 a3 a4 a5 a6 a7 a8 a9 a10 a11 a12 a13 a14 a15 a16 a17 a18 a19 r u h hml h69 k hk hkr (by omega) h6)))
 rw[bp0 (by omega)]at hK;exact E 2 hK (by decide) (fun u=>iU s 0 0 0 0 0 ⟨#[]⟩ 2 u (fun u=>je s 2 u (fun u B h _=>by rw[hL,hlist]at h;exact zw B a0 a1 a2 a3 a4 a5 a6 a7 a8 a9 a10 a11 a12 a13 a14 a15 a16 a17 a18 a19 r u h hml 2 (fun u hu=>Eg B _ _ _ u hu hml h1))))
end Uy
namespace UI
open Bs Rd
open gP (other gN gD gM gI)
open Ip (lS uX)
open Ud (kR mZ)
theorem xK(B:Nat)(l:List UInt8)(fr ta:Int)(w:fV)(h:iL w B l)(hn:l.length<8):
  f_ Vh 78 #[p_ B,.int .u32 fr,.int .u32 ta] w fun ee w'=>ee=.panicked (iH 1)/\w.grownBy w' (some B):=by
 have hB:=h.lt;have hne0:w.heap.size≠B:=by omega
 have H0:=Fe (h.alloc (.cells zF_ 69));have G0:=Fe (gV (il w (some B)) (.cells zF_ 69));have R0:Hid ((w.alloc (.cells zF_ 69)).heap[w.heap.size]?=some (.cells zF_ 69 (0,0))):=bn3 w _;clear h;go_enter func78,ntmps78;go_wp2_with fail;refine on_ (vZ _ _ _ _ H0 (by omega)) fun wz hwz=>?_;exact⟨rfl,rfl,by rw[hwz];exact gB G0⟩
theorem A7(B:Nat)(a0 a1 a2 a3 a4 a5 a6 a7:UInt8)(l:List UInt8)(fr ta:Int)(w:fV)(h:iL w B (a0::a1::a2::a3::a4::a5::a6::a7::l))(hs:(a0::a1::a2::a3::a4::a5::a6::a7::l).length<=maxLen)(k:Int)(hx:∀u,iL u B (a4::a5::a6::a7::l)->f_ Vh 106 #[p_ B,.int .i64 8,.int .i64 ((l.length+8:Nat):Int)] u fun e w'=>e=.panicked (iH k)/\u.grownBy w' (some B)):
  f_ Vh 78 #[p_ B,.int .u32 fr,.int .u32 ta] w fun ee w'=>ee=.panicked (iH k)/\w.grownBy w' (some B):=by
 obtain⟨s,hS⟩:∃s:ByteArray,s=⟨(a0::a1::a2::a3::a4::a5::a6::a7::l).toArray⟩:=⟨_,rfl⟩;have hz:s.size=l.length+8:=by rw[hS,gL];simp
 have hmx:(s.size:Int)<=9223372036854775807:=by rw[hz];simp only[bn5,maxLen]at hs;omega
 have hk8:(8:Int)<=(s.size:Int):=by omega
 have hB:=h.lt;have hne0:w.heap.size≠B:=by omega
 have H0:=Fe (h.alloc (.cells zF_ 69));have G0:=Fe (gV (il w (some B)) (.cells zF_ 69));have R0:Hid ((w.alloc (.cells zF_ 69)).heap[w.heap.size]?=some (.cells zF_ 69 (0,0))):=bn3 w _;have hc0:(w.alloc (.cells zF_ 69)).cell? (a_ B 0)=some (.string s):=by rw[hS];exact bp1 H0
 have hn0:(8:Int)<=((a0::a1::a2::a3::a4::a5::a6::a7::l).length:Int):=by simp only[bn5];omega
 have HN0:=Fe hn0;clear h hn0;have T1:=Fe (fun u hu=>jo B a0 a1 (a2::a3::a4::a5::a6::a7::l) u hu (by simp only[bn5,maxLen]at hs ⊢;omega));have T2:=Fe (fun u hu=>jo B a2 a3 (a4::a5::a6::a7::l) u hu (by simp only[bn5,maxLen]at hs ⊢;omega));obtain⟨x0,hx0⟩:=ex_ ((256*(a0.toNat:Int)+(a1.toNat:Int)));obtain⟨x2,hx2⟩:=ex_ ((256*(a2.toNat:Int)+(a3.toNat:Int)));rw[<-hx0]at T1;rw[<-hx2]at T2;have T3:=Fe (fun u hu=>hx u hu);rw[<-hz]at T3;clear hx hS hz hx0 hx2;go_enter func78,ntmps78;go_wp2_with fail;refine on_ (kQ _ _ _ _ H0 HN0) fun wz hwz=>?_;rw[hwz];clear hwz wz;have hneV:w.heap.size+1≠B:=by omega
 have hlt0:w.heap.size<w.heap.size+1:=by omega
 have H1:=Fe (H0.alloc (.cells zF_ 69));have G1:=Fe (gV G0 (.cells zF_ 69));have E1:Hid (((w.alloc (.cells zF_ 69)).alloc (.cells zF_ 69)).heap[w.heap.size+1]?=some (.cells zF_ 69 (0,0))):=by
  have q:=bn3 (w.alloc (.cells zF_ 69)) (.cells zF_ 69);rw[show(w.alloc (.cells zF_ 69)).heap.size=w.heap.size+1 by simp]at q;exact q
 have R1:Hid (((w.alloc (.cells zF_ 69)).alloc (.cells zF_ 69)).heap[w.heap.size]?=some (.cells zF_ 69 (0,0))):=by
  show _=_;rw[bn8 _ _ _ (by simp)];exact R0
 clear H0 G0 R0;go_wp2_with fail;refine on_ (T1 _ H1) ?_;rintro w2 ⟨k2,g2⟩;have hr:w2.heap[w.heap.size]?=some (.cells zF_ 69 (0,0)):=(g2.block _ (bo2 R1) (fun q=>hne0 (by simpa using q))).trans R1;have he:w2.heap[w.heap.size+1]?=some (.cells zF_ 69 (0,0)):=(g2.block _ (bo2 E1) (fun q=>hneV (by simpa using q))).trans E1;have c2_0:w2.cell? (a_ (w.heap.size+1) 0)=some (.int .u16 0):=gD he rfl;have f2:=gM he;have E2:Hid ((w2.setCell (a_ (w.heap.size+1) 0) (.int .u16 x0)).heap[w.heap.size+1]?=some (.cells (rF x0 0 ⟨#[]⟩) 69 (0,0))):=gI he 0 (.int .u16 x0);have H2:Hid (iL (w2.setCell (a_ (w.heap.size+1) 0) (.int .u16 x0)) B (a2::a3::a4::a5::a6::a7::l)):=other k2 hneV.symm _;have G2:Hid (w.grownBy (w2.setCell (a_ (w.heap.size+1) 0) (.int .u16 x0)) (some B)):=gN (gH G1 g2) (bv6 hlt0) _;have R2:Hid ((w2.setCell (a_ (w.heap.size+1) 0) (.int .u16 x0)).heap[w.heap.size]?=some (.cells zF_ 69 (0,0))):=by
  show _=_;rw[bo0 _ _ _ _ (bo5 hlt0)];exact hr
 clear hr k2 g2 H1 G1 R1 he E1;go_wp2_with fail;refine on_ (T2 _ H2) ?_;rintro w3 ⟨k3,g3⟩;have hr:w3.heap[w.heap.size]?=some (.cells zF_ 69 (0,0)):=(g3.block _ (bo2 R2) (fun q=>hne0 (by simpa using q))).trans R2;have he:w3.heap[w.heap.size+1]?=some (.cells (rF x0 0 ⟨#[]⟩) 69 (0,0)):=(g3.block _ (bo2 E2) (fun q=>hneV (by simpa using q))).trans E2;have c3_1:w3.cell? (a_ (w.heap.size+1) 1)=some (.int .u16 0):=gD he rfl;have f3:=gM he;have E3:Hid ((w3.setCell (a_ (w.heap.size+1) 1) (.int .u16 x2)).heap[w.heap.size+1]?=some (.cells (rF x0 x2 ⟨#[]⟩) 69 (0,0))):=gI he 1 (.int .u16 x2);have H3:Hid (iL (w3.setCell (a_ (w.heap.size+1) 1) (.int .u16 x2)) B (a4::a5::a6::a7::l)):=other k3 hneV.symm _;have G3:Hid (w.grownBy (w3.setCell (a_ (w.heap.size+1) 1) (.int .u16 x2)) (some B)):=gN (gH G2 g3) (bv6 hlt0) _;have R3:Hid ((w3.setCell (a_ (w.heap.size+1) 1) (.int .u16 x2)).heap[w.heap.size]?=some (.cells zF_ 69 (0,0))):=by
  show _=_;rw[bo0 _ _ _ _ (bo5 hlt0)];exact hr
 clear hr k3 g3 H2 G2 R2 he E2;go_wp2_with fail;refine on_ (T3 _ H3) fun wz gz=>?_;exact⟨rfl,rfl,gH G3 gz⟩
theorem G7{u:fV}{g:Nat}{t:TypeId}{b0 b1 b2:Value}(h:u.heap[g]?=some (.cells #[b0,b1,b2] t (0,0))):u.cell? (a_ g 0)=some b0/\u.cell? (a_ g 1)=some b1/\u.cell? (a_ g 2)=some b2:=by
 have q:=fun j=>bn0 u g j _ _ _ h;exact⟨q 0,q 1,q 2⟩
theorem ZL(B:Nat)(a0 a1 a2 a3 a4 a5 a6 a7:UInt8)(l:List UInt8)(fr ta:Int)(w:fV)(h:iL w B (a0::a1::a2::a3::a4::a5::a6::a7::l))(hs:(a0::a1::a2::a3::a4::a5::a6::a7::l).length<=maxLen)(hf:0<=fr/\fr<=4294967295)(ho:0<=ta/\ta<=4294967295)(m k:Nat)(hmk:m=8+k)(hn:(256*(a4.toNat:Int)+(a5.toNat:Int))=(m:Int))(hk:k<=l.length)(hm:m<=65535)(hL:l.length<=1099511627776):
  f_ Vh 78 #[p_ B,.int .u32 fr,.int .u32 ta] w fun ee w'=>(if(256*(a6.toNat:Int)+(a7.toNat:Int))≠0/\lS (kR fr ta (m:Int)++(a0::a1::a2::a3::a4::a5::a6::a7::l).take m)≠0 then ee=.panicked (iH 6)else ee=.returned (.agg (rF (256*(a0.toNat:Int)+(a1.toNat:Int)) (256*(a2.toNat:Int)+(a3.toNat:Int)) ⟨(l.take k).toArray⟩)))/\w.grownBy w' (some B):=by
 obtain⟨s,hS⟩:∃s:ByteArray,s=⟨(a0::a1::a2::a3::a4::a5::a6::a7::l).toArray⟩:=⟨_,rfl⟩;have hz:s.size=l.length+8:=by rw[hS,gL];simp
 have hmx:(s.size:Int)<=9223372036854775807:=by rw[hz];simp only[bn5,maxLen]at hs;omega
 have hk8:(8:Int)<=(s.size:Int):=by omega
 have hB:=h.lt;have hne0:w.heap.size≠B:=by omega
 have H0:=Fe (h.alloc (.cells zF_ 69));have hc0:(w.alloc (.cells zF_ 69)).cell? (a_ B 0)=some (.string s):=by rw[hS];exact bp1 H0
 have hn0:(8:Int)<=((a0::a1::a2::a3::a4::a5::a6::a7::l).length:Int):=by simp only[bn5];omega
 have HN0:=Fe hn0;have SS:=Fe (VS.start 69 zF_ h);clear h hn0;have T1:=Fe (fun u hu=>jo B a0 a1 (a2::a3::a4::a5::a6::a7::l) u hu (by simp only[bn5,maxLen]at hs ⊢;omega));have T2:=Fe (fun u hu=>jo B a2 a3 (a4::a5::a6::a7::l) u hu (by simp only[bn5,maxLen]at hs ⊢;omega));obtain⟨x0,hx0⟩:=ex_ ((256*(a0.toNat:Int)+(a1.toNat:Int)));obtain⟨x2,hx2⟩:=ex_ ((256*(a2.toNat:Int)+(a3.toNat:Int)));rw[<-hx0]at T1 ⊢;rw[<-hx2]at T2 ⊢;have T3:=(fun u hu=>uj B a4 a5 (a6::a7::l) 8 (s.size:Int) u hu (by simp only[bn5,maxLen]at hs ⊢;omega) (by omega) (by omega));rw[hn]at T3;have T3:=Fe T3;have T4:=(fun u hu=>jo B a6 a7 l u hu (by simp only[bn5,maxLen]at hs ⊢;omega));have hm1:(m:Int)<=(s.size:Int):=by omega
 obtain⟨x6,hx6⟩:=ex_ ((256*(a6.toNat:Int)+(a7.toNat:Int)));rw[<-hx6]at T4 ⊢;have TC:=(fun u=>mZ (s.extract 0 m) fr ta u (by rw[bB4];omega) hf ho);have esz:((s.extract 0 m).size:Int)=(m:Int):=by rw[bB4];omega
 have edt:(s.extract 0 m).data.toList=(a0::a1::a2::a3::a4::a5::a6::a7::l).take m:=by rw[hS,iX]
 rw[esz,edt]at TC;obtain⟨c,hc⟩:=ex_ (lS (kR fr ta (m:Int)++(a0::a1::a2::a3::a4::a5::a6::a7::l).take m));rw[<-hc]at TC ⊢;have TC:=Fe TC;clear esz edt hc hx6;have T4:=Fe T4;have T5:=Fe (fun u hu=>za B l k u hu (by omega) (by omega));have hq:IntKind.i64.wrap ((m:Int)-8)=(k:Int):=by rw[wrap_i64 _ (by omega) (by omega)];omega
 have hq2:(m:Int)-8=(k:Int):=by omega
 clear hS hz hx0 hx2 hn hmk;go_enter func78,ntmps78;go_wp2_with fail;refine on_ (kQ _ _ _ _ H0 HN0) fun wz hwz=>?_;rw[hwz];clear hwz wz H0;have hneV:w.heap.size+1≠B:=by omega
 have hlt0:w.heap.size<w.heap.size+1:=by omega
 go_wp2_with fail;refine on_ (T1 _ SS.D8) ?_;rintro w2 ⟨k1,g1⟩;have SM:=Fe (SS.next k1 g1);have S2:=Fe (SM.sets [(0,.int .u16 x0)] (cs':=(rF x0 0 ⟨#[]⟩)) rfl);have x_0:=gP.gD SM.var (j:=0) rfl;have f2:=SM.free.1;clear k1 g1 SM SS;go_wp2_with fail;refine on_ (T2 _ S2.D8) ?_;rintro w3 ⟨k1,g1⟩;have SM:=Fe (S2.next k1 g1);have S3:=Fe (SM.sets [(1,.int .u16 x2)] (cs':=(rF x0 x2 ⟨#[]⟩)) rfl);clear x_0 f2;have x_1:=gP.gD SM.var (j:=1) rfl;have f3:=SM.free.1;clear k1 g1 SM S2;go_wp2_with fail;refine on_ (T3 _ S3.D8) ?_;rintro w4 ⟨k1,g1⟩;have S4:=Fe (S3.next k1 g1);clear k1 g1 S3;clear x_1 f3;go_wp2_with fail;refine on_ (T4 _ S4.D8) ?_;rintro w5 ⟨k1,g1⟩;have S5:=Fe (S4.next k1 g1);clear k1 g1 S4
 rcases Decidable.em (x6=0)with h6|h6
 have HP:Hid (¬(x6≠0/\c≠0)):=Fe (fun q=>q.1 h6);subst h6;have S6:=S5;clear S5 TC;go_wp2_with fail;refine on_ (jD _ (by simp) _ _) fun wz hwz=>?_;rw[hwz];clear hwz wz;rotate_left
 have hqn:(x6==0)=false:=by simpa using h6
 go_wp2_with fail;refine on_ (TC _) fun w6 b6=>?_;have S6:=Fe (S5.below b6);clear b6 S5
 by_cases hc:c=0
 case neg=>
  have hcn:(c==0)=false:=by simpa using hc
  go_wp2_with fail;refine on_ (iR _ (by simp) _ _) fun wz hwz=>?_;exact⟨rfl,by rw[bp0 ⟨h6,hc⟩],by rw[hwz];exact S6.grown⟩
 have HP:Hid (¬(x6≠0/\c≠0)):=Fe (fun q=>q.2 hc);subst hc;clear h6;go_wp2_with fail;refine on_ (jD _ (by simp) _ _) fun wz hwz=>?_;rw[hwz];clear hwz wz;rotate_left
 all_goals
  go_wp2_with fail;refine on_ (T5 _ S6.D8) ?_;rintro w7 ⟨k1,g1⟩;have S7:=Fe (S6.next k1 g1);have HG:=Fe ((S7.set 2 (.string ⟨(l.take k).toArray⟩)).done [(0,.int .u16 x0),(1,.int .u16 x2),(2,.string ⟨(l.take k).toArray⟩)]);obtain⟨c0,c1,c2⟩:=G7 S7.var;obtain⟨d0,d1,d2⟩:=G7 S7.res;obtain⟨f1,f2⟩:=S7.free;clear k1 g1 S6 S7;go_wp2;refine bq9 (v:=.agg (rF x0 x2 ⟨(l.take k).toArray⟩)) (by simp[results,results78,go_sem,d0,d1,d2]) rfl ?_;exact⟨by first|rfl|rw[bo4 (gB HP)],HG⟩
section
variable(B:Nat) (a0 a1 a2 a3 a4 a5 a6 a7:UInt8) (l:List UInt8) (fr ta:Int) (w:fV) (h:iL w B (a0::a1::a2::a3::a4::a5::a6::a7::l)) (hs:(a0::a1::a2::a3::a4::a5::a6::a7::l).length≤maxLen) (hf:0≤fr∧fr≤4294967295) (ho:0≤ta∧ta≤4294967295) (m k:Nat) (hmk:m=8+k) (hn:(256*(a4.toNat:Int)+(a5.toNat:Int))=(m:Int)) (hk:k≤l.length) (hm:m≤65535) (hL:l.length≤1099511627776)
include h hs hf ho hmk hn hk hm hL
theorem Dj(hq0:(256*(a6.toNat:Int)+(a7.toNat:Int))≠0)(hsum:lS (kR fr ta (m:Int)++(a0::a1::a2::a3::a4::a5::a6::a7::l).take m)≠0):f_ Vh 78 #[p_ B,.int .u32 fr,.int .u32 ta] w fun ee w'=>ee=.panicked (iH 6)/\w.grownBy w' (some B):=(ZL B a0 a1 a2 a3 a4 a5 a6 a7 l fr ta w h hs hf ho m k hmk hn hk hm hL).mono fun ee _ q=>⟨by have q:=q.1;rwa [bp0 ⟨hq0,hsum⟩]at q,q.2⟩
theorem Dy(hq0:(256*(a6.toNat:Int)+(a7.toNat:Int))=0):f_ Vh 78 #[p_ B,.int .u32 fr,.int .u32 ta] w fun ee w'=>ee=.returned (.agg (rF (256*(a0.toNat:Int)+(a1.toNat:Int)) (256*(a2.toNat:Int)+(a3.toNat:Int)) ⟨(l.take k).toArray⟩))/\w.grownBy w' (some B):=(ZL B a0 a1 a2 a3 a4 a5 a6 a7 l fr ta w h hs hf ho m k hmk hn hk hm hL).mono fun ee _ q=>⟨by have q:=q.1;rwa [bo4 (fun q=>q.1 hq0)]at q,q.2⟩
theorem Dr(hsum:lS (kR fr ta (m:Int)++(a0::a1::a2::a3::a4::a5::a6::a7::l).take m)=0):f_ Vh 78 #[p_ B,.int .u32 fr,.int .u32 ta] w fun ee w'=>ee=.returned (.agg (rF (256*(a0.toNat:Int)+(a1.toNat:Int)) (256*(a2.toNat:Int)+(a3.toNat:Int)) ⟨(l.take k).toArray⟩))/\w.grownBy w' (some B):=(ZL B a0 a1 a2 a3 a4 a5 a6 a7 l fr ta w h hs hf ho m k hmk hn hk hm hL).mono fun ee _ q=>⟨by have q:=q.1;rwa [bo4 (fun q=>q.2 hsum)]at q,q.2⟩
end
theorem Dl(B c1 c2:Nat)(fr ta k:Int)(L:List UInt8)(w:fV)(h:iL w B L)(l1:c1<w.heap.size)(l2:c2<w.heap.size)(h1:w.cell? (a_ c1 0)=some (.int .u32 fr))(h2:w.cell? (a_ c2 0)=some (.int .u32 ta))
  (hU:∀u,iL u B L->f_ Vh 78 #[p_ B,.int .u32 fr,.int .u32 ta] u fun ee w'=>ee=.panicked (iH k)/\u.grownBy w' (some B)):
  f_ Vh 77 #[p_ B,p_ c1,p_ c2] w fun ee w'=>ee=.panicked (iH k)/\w.grownBy w' (some B):=by
 have HU:=Fe (hU _ (h.alloc (.cells zF_ 69)));have n1:=(((bn9 w.heap.size w).alloc (bn7 _) (.cells zF_ 69)).cell (p:=(a_ c1 0)) l1).trans h1;have n2:=(((bn9 w.heap.size w).alloc (bn7 _) (.cells zF_ 69)).cell (p:=(a_ c2 0)) l2).trans h2;clear hU h;go_enter func77,ntmps77;go_wp2_with fail;refine on_ HU fun w1 g1=>?_;exact⟨rfl,rfl,gH (gV (il w (some B)) _) g1⟩
theorem NY(B c1 c2:Nat)(fr ta a0 a1:Int)(a2:ByteArray)(L:List UInt8)(w:fV)(h:iL w B L)(l1:c1<w.heap.size)(l2:c2<w.heap.size)(h1:w.cell? (a_ c1 0)=some (.int .u32 fr))(h2:w.cell? (a_ c2 0)=some (.int .u32 ta))
  (hU:∀u,iL u B L->f_ Vh 78 #[p_ B,.int .u32 fr,.int .u32 ta] u fun ee w'=>ee=.returned (.agg (rF a0 a1 a2))/\u.grownBy w' (some B)):
  f_ Vh 77 #[p_ B,p_ c1,p_ c2] w fun ee w'=>ee=.returned (.agg (rF a0 a1 a2))/\w.grownBy w' (some B):=by
 have HU:=Fe (hU _ (h.alloc (.cells zF_ 69)));have n1:=(((bn9 w.heap.size w).alloc (bn7 _) (.cells zF_ 69)).cell (p:=(a_ c1 0)) l1).trans h1;have n2:=(((bn9 w.heap.size w).alloc (bn7 _) (.cells zF_ 69)).cell (p:=(a_ c2 0)) l2).trans h2;have hB:=h.lt;have hne0:w.heap.size≠B:=by omega
 clear hU h;go_enter func77,ntmps77;go_wp2_with fail;refine on_ HU fun w1 g1=>?_;have hr:w1.heap[w.heap.size]?=some (.cells zF_ 69 (0,0)):=(g1.block _ (by simp) (fun q=>hne0 (by simpa using q))).trans (bn3 w _);have d0:w1.cell? (a_ w.heap.size 0)=some (.int .u16 0):=gD hr rfl;have d1:w1.cell? (a_ w.heap.size 1)=some (.int .u16 0):=gD hr rfl;have d2:w1.cell? (a_ w.heap.size 2)=some (.string ⟨#[]⟩):=gD hr rfl;have kd:=gM hr;have G1:=Fe (gH (gV (il w (some B)) _) g1);clear g1 hr HU;go_wp2;refine bq9 (v:=.agg (rF a0 a1 a2)) (by simp[results,results77,go_sem,d0,d1,d2]) rfl ⟨rfl,?_⟩;iterate 3 refine gN ?_ (bn7 _) _
 exact G1
end UI
namespace UI
open Bs Rd
open gP (jf kT blocks gD gM gI jk iG jE)
theorem je(s:ByteArray)(c1 c2:Nat)(k:Int)(w:fV)
  (hR:∀u B,iL u B s.data.toList->(∀b o,b<w.heap.size->u.cell? (a_ b o)=w.cell? (a_ b o))->f_ Vh 77 #[p_ B,p_ c1,p_ c2] u fun ee w'=>ee=.panicked (iH k)/\u.grownBy w' (some B)):
  f_ Vh 76 #[.string s,.func (.func 77) #[] #[p_ c1,p_ c2]] w fun ee w'=>ee=.returned (.tuple #[.agg zF_,.int .i64 k])/\gm w.heap.size w w':=by
 have hmf:=hmf_;have HR:=Fe hR;clear hR;go_enter_defers func76,ntmps76
 go_wp2_with fail;refine on_ (HR _ _ (iG _ _ s (by simp)) (fun b o hb=>b3_.cell (p:=(a_ b o)) hb)) fun w1 g1=>?_;obtain⟨hr,he⟩:=blocks g1 rfl;refine bt9 (f:=129) (args:=#[p_ (w.heap.size+1)]) (by simp) (by simp[go_sem]) ?_;refine(jf func129 (by kernel_rfl) (by kernel_rfl) (by kernel_rfl) (a_ (w.heap.size+1) 0) 0 k [] _ (bp1 he) (br2 he)).mono ?_;rintro e u' w'' ⟨rfl,rfl,rfl⟩;exact⟨_,aL results76 rfl rfl hr he (fun u hu=>bq4 u _ _ _ _ _ _ hu underlying69 rfl (by kernel_rfl)),rfl,(jk g1 b3_ (by omega)).setCell (by simp) _⟩
theorem nK(s:ByteArray)(c1 c2:Nat)(a0 a1:Int)(a2:ByteArray)(w:fV)
  (hR:∀u B,iL u B s.data.toList->(∀b o,b<w.heap.size->u.cell? (a_ b o)=w.cell? (a_ b o))->f_ Vh 77 #[p_ B,p_ c1,p_ c2] u fun ee w'=>ee=.returned (.agg (rF a0 a1 a2))/\u.grownBy w' (some B)):
  f_ Vh 76 #[.string s,.func (.func 77) #[] #[p_ c1,p_ c2]] w fun ee w'=>ee=.returned (.tuple #[.agg (rF a0 a1 a2),.int .i64 0])/\gm w.heap.size w w':=by
 have hmf:=hmf_;have HR:=Fe hR;clear hR;go_enter_defers func76,ntmps76
 go_wp2_with fail;refine on_ (HR _ _ (iG _ _ s (by simp)) (fun b o hb=>b3_.cell (p:=(a_ b o)) hb)) fun w1 g1=>?_;obtain⟨hr,he⟩:=blocks g1 rfl;have HB:=Fe (jk g1 b3_ (by omega));have hc:=fun cs=>bp1 ((bt0 w1 w.heap.size _ cs (by omega)).trans he);have hf:=fun cs=>br2 ((bt0 w1 w.heap.size _ cs (by omega)).trans he);go_wp2_with (refine bq2 rfl 69 (.tmp 4) (.tmp 11) rfl w.heap.size _ rfl rfl 69 _ hr (by kernel_rfl) (by kernel_rfl) (by kernel_rfl) ?_);refine bt9 (f:=129) (args:=#[p_ (w.heap.size+1)]) (by simp) (by simp[go_sem]) ?_;refine(kT func129 (by kernel_rfl) (by kernel_rfl) (by kernel_rfl) (a_ (w.heap.size+1) 0) _).mono ?_;rintro e u' w'' ⟨rfl,rfl,rfl⟩;exact⟨_,aQ results76 rfl rfl hr he (fun u hu=>bq4 u _ _ _ _ _ _ hu underlying69 rfl (by kernel_rfl)),rfl,(aD HB (bn7 _) _).setCell (by simp) _⟩
theorem iU(s:ByteArray)(a0 a1:Int)(a2:ByteArray)(k:Int)(fr ta:Int)(w:fV)
  (hR:∀u:fV,u.cell? (a_ w.heap.size 0)=some (.int .u32 fr)->u.cell? (a_ (w.heap.size+1) 0)=some (.int .u32 ta)->f_ Vh 76 #[.string s,.func (.func 77) #[] #[p_ w.heap.size,p_ (w.heap.size+1)]] u fun ee w'=>ee=.returned (.tuple #[.agg (rF a0 a1 a2),.int .i64 k])/\gm u.heap.size u w'):
  f_ Vh 43 (rJ s fr ta) w fun ee w'=>ee=.returned (.tuple #[.agg (rF a0 a1 a2),.int .i64 k])/\gm w.heap.size w w':=by
 have hmf:=hmf_;have HR:=Fe hR;clear hR;go_enter func43,ntmps43;go_wp2_with fail;refine on_ (HR (((w.alloc (.cells #[.int .u32 fr] 36)).alloc (.cells #[.int .u32 ta] 36)).alloc (.cells zF_ 69)) (by simp[go_sem]) (by simp[go_sem])) fun w1 hb=>?_;have hr:w1.heap[w.heap.size+2]?=some (.cells zF_ 69 (0,0)):=(hb.block _ (by simp)).trans ((by simpa using bn3 ((w.alloc (.cells #[.int .u32 fr] 36)).alloc (.cells #[.int .u32 ta] 36)) (.cells zF_ 69)));go_wp2_with (refine bq2 rfl 69 (.tmp 6) (.tmp 11) rfl (w.heap.size+2) _ rfl rfl 69 _ hr (by kernel_rfl) (by kernel_rfl) (by kernel_rfl) ?_);exact aC results43 rfl rfl rfl hr (fun u hu=>bq4 u _ _ _ _ _ _ hu underlying69 rfl (by kernel_rfl)) (fun q=>⟨rfl,q⟩) b3_ hb (by omega)
theorem Xu(s:ByteArray)(a0 a1:Int)(a2:ByteArray)(k:Int)(fr ta:Int)(w:fV)
  (hR:∀u:fV,f_ Vh 43 (rJ s fr ta) u fun ee w'=>ee=.returned (.tuple #[.agg (rF a0 a1 a2),.int .i64 k])/\gm u.heap.size u w'):
  f_ Vh 24 (rJ s fr ta) w fun ee w'=>ee=.returned (.tuple #[.agg (rF a0 a1 a2),.int .i64 k])/\gm w.heap.size w w':=by
 have HR:=Fe hR;clear hR;go_enter func24,ntmps24;go_wp2_with fail;refine on_ (HR _) fun w1 hb=>?_;have hr:=(hb.block _ (by simp)).trans (bn3 w _);go_wp2_with (refine bq2 rfl 69 (.tmp 6) (.tmp 12) rfl w.heap.size _ rfl rfl 69 _ hr (by kernel_rfl) (by kernel_rfl) (by kernel_rfl) ?_);exact aC results24 rfl rfl rfl hr (fun u hu=>bq4 u _ _ _ _ _ _ hu underlying69 rfl (by kernel_rfl)) (fun q=>⟨rfl,q⟩) b1_ hb (bn7 _)
end UI
namespace Uv
open Bs Rd Lt Ut
open Ip (lS uX)
open Ud (kR)
open Go.Proofs.YtdgacidndknceaaGreatDoor.UI
theorem iD{w:fV}{b o:Nat}{v:Value}(h:w.cell? (a_ b o)=some v):b<w.heap.size:=by
 by_cases hlt:b<w.heap.size
 ·exact hlt
 have hn:w.heap[b]?=none:=by simp;omega
 simp[World.cell?,hn]at h
theorem zX(s:ByteArray)(L:List UInt8)(hL:s.data.toList=L)(fr ta:Int)(w:fV)(hm:s.size<=262144)(hf:0<=fr/\fr<=4294967295)(ho:0<=ta/\ta<=4294967295):
  f_ Vh 43 (rJ s fr ta) w fun ee w'=>ee=.returned (.tuple #[.agg (rF (Lr L fr ta (w2 L 0)) (Lr L fr ta (w2 L 2)) (Ae L fr ta)),.int .i64 (BD L fr ta)])/\gm w.heap.size w w':=by
 have hl:=jc s;rw[hL]at hl;have E:∀k,BD L fr ta=k->k≠0->(∀u:fV,f_ Vh 43 (rJ s fr ta) u fun ee w'=>ee=.returned (.tuple #[.agg zF_,.int .i64 k])/\gm u.heap.size u w')->
   f_ Vh 43 (rJ s fr ta) w fun ee w'=>ee=.returned (.tuple #[.agg (rF (Lr L fr ta (w2 L 0)) (Lr L fr ta (w2 L 2)) (Ae L fr ta)),.int .i64 (BD L fr ta)])/\gm w.heap.size w w':=by
  intro k h0 h1 h2;rw[zi h0 h1,zi h0 h1,Ef h0 h1,h0];exact h2 w
 by_cases hn:L.length<8
 ·exact E 1 (by unfold BD;rw[bp0 hn]) (by decide) (fun u=>iU s 0 0 ⟨#[]⟩ 1 fr ta u (fun v c1 c2=>je s _ _ 1 v (fun x B h hc=>Dl B _ _ fr ta 1 L x (by rw[hL]at h;exact h) (iD ((hc _ _ (iD c1)).trans c1)) (iD ((hc _ _ (iD c2)).trans c2)) ((hc _ _ (iD c1)).trans c1) ((hc _ _ (iD c2)).trans c2) (fun y hy=>by exact xK B L fr ta y hy hn))))
 obtain⟨a0,a1,a2,a3,a4,a5,a6,a7,r,hlist⟩:=eight L (by omega);have heta:=mQ s;rw[hL]at heta;have p4:=a4.toNat_lt;have p5:=a5.toNat_lt;have b4:w2 L 4=(256*(a4.toNat:Int)+(a5.toNat:Int)):=by rw[hlist];rfl
 have b6:w2 L 6=(256*(a6.toNat:Int)+(a7.toNat:Int)):=by rw[hlist];rfl
 have dr:L.drop 8=r:=by rw[hlist];rfl
 have ln:L.length=r.length+8:=by rw[hlist];simp
 have hml:(a0::a1::a2::a3::a4::a5::a6::a7::r).length<=maxLen:=by rw[<-hlist];unfold maxLen;omega
 have hK:BD L fr ta=if w2 L 4<8 then 2 else if((L.length:Nat):Int)<w2 L 4 then 1
   else if w2 L 6≠0/\lS (kR fr ta (w2 L 4)++L.take (w2 L 4).toNat)≠0 then 6 else 0:=by unfold BD;rw[bo4 hn]
 rw[b4,b6,ln]at hK
 by_cases h4:(256*(a4.toNat:Int)+(a5.toNat:Int))<8
 ·rw[bp0 h4]at hK
  exact E 2 hK (by decide) (fun u=>iU s 0 0 ⟨#[]⟩ 2 fr ta u (fun v c1 c2=>je s _ _ 2 v (fun x B h hc=>Dl B _ _ fr ta 2 L x (by rw[hL]at h;exact h) (iD ((hc _ _ (iD c1)).trans c1)) (iD ((hc _ _ (iD c2)).trans c2)) ((hc _ _ (iD c1)).trans c1) ((hc _ _ (iD c2)).trans c2) (fun y hy=>by rw[hlist]at hy;exact A7 B a0 a1 a2 a3 a4 a5 a6 a7 r fr ta y hy hml 2 (fun z hz=>yn B _ _ _ _ _ z hz (by simp only[bn5]at hml ⊢;unfold maxLen at hml ⊢;omega) (by omega))))))
 rw[bo4 h4]at hK
 by_cases h5:((r.length+8:Nat):Int)<(256*(a4.toNat:Int)+(a5.toNat:Int))
 ·rw[bp0 h5]at hK
  exact E 1 hK (by decide) (fun u=>iU s 0 0 ⟨#[]⟩ 1 fr ta u (fun v c1 c2=>je s _ _ 1 v (fun x B h hc=>Dl B _ _ fr ta 1 L x (by rw[hL]at h;exact h) (iD ((hc _ _ (iD c1)).trans c1)) (iD ((hc _ _ (iD c2)).trans c2)) ((hc _ _ (iD c1)).trans c1) ((hc _ _ (iD c2)).trans c2) (fun y hy=>by rw[hlist]at hy;exact A7 B a0 a1 a2 a3 a4 a5 a6 a7 r fr ta y hy hml 1 (fun z hz=>wo B _ _ _ _ _ z hz (by simp only[bn5]at hml ⊢;unfold maxLen at hml ⊢;omega) (by omega) (by omega))))))
 rw[bo4 h5]at hK;obtain⟨k,hk⟩:∃k:Nat,(256*(a4.toNat:Int)+(a5.toNat:Int))=8+(k:Int):=⟨((256*(a4.toNat:Int)+(a5.toNat:Int))-8).toNat,by omega⟩;obtain⟨m,hmk⟩:∃m:Nat,m=8+k:=⟨_,rfl⟩;have hnm:(256*(a4.toNat:Int)+(a5.toNat:Int))=(m:Int):=by omega
 have hkr:k<=r.length:=by omega
 have hm6:m<=65535:=by omega
 rw[hnm,Int.toNat_natCast]at hK;have e5:BD L fr ta=0->Ae L fr ta=⟨(r.take k).toArray⟩:=fun h=>by rw[JD h,dr,b4,hnm,Int.toNat_natCast,hmk];congr 3;omega
 have b0:w2 L 0=(256*(a0.toNat:Int)+(a1.toNat:Int)):=by rw[hlist];rfl
 have b2:w2 L 2=(256*(a2.toNat:Int)+(a3.toNat:Int)):=by rw[hlist];rfl
 by_cases h6:(256*(a6.toNat:Int)+(a7.toNat:Int))=0
 ·rw[bo4 (fun q=>q.1 h6)]at hK
  rw[sS hK,sS hK,e5 hK,hK,b0,b2];refine iU s _ _ _ 0 fr ta w (fun v c1 c2=>nK s _ _ _ _ _ v (fun x B h hc=>NY B _ _ fr ta _ _ _ L x (by rw[hL]at h;exact h) (iD ((hc _ _ (iD c1)).trans c1)) (iD ((hc _ _ (iD c2)).trans c2)) ((hc _ _ (iD c1)).trans c1) ((hc _ _ (iD c2)).trans c2) (fun y hy=> ?_)));rw[hlist]at hy;exact Dy B a0 a1 a2 a3 a4 a5 a6 a7 r fr ta y hy hml hf ho m k hmk hnm hkr hm6 (by omega) h6
 by_cases h7:lS (kR fr ta (m:Int)++(a0::a1::a2::a3::a4::a5::a6::a7::r).take m)=0
 ·rw[bo4 (fun q=>q.2 (by rw[hlist];exact h7))]at hK
  rw[sS hK,sS hK,e5 hK,hK,b0,b2];refine iU s _ _ _ 0 fr ta w (fun v c1 c2=>nK s _ _ _ _ _ v (fun x B h hc=>NY B _ _ fr ta _ _ _ L x (by rw[hL]at h;exact h) (iD ((hc _ _ (iD c1)).trans c1)) (iD ((hc _ _ (iD c2)).trans c2)) ((hc _ _ (iD c1)).trans c1) ((hc _ _ (iD c2)).trans c2) (fun y hy=> ?_)));rw[hlist]at hy;exact Dr B a0 a1 a2 a3 a4 a5 a6 a7 r fr ta y hy hml hf ho m k hmk hnm hkr hm6 (by omega) h7
 rw[bp0 ⟨h6,by rw[hlist];exact h7⟩]at hK;exact E 6 hK (by decide) (fun u=>iU s 0 0 ⟨#[]⟩ 6 fr ta u (fun v c1 c2=>je s _ _ 6 v (fun x B h hc=>Dl B _ _ fr ta 6 L x (by rw[hL]at h;exact h) (iD ((hc _ _ (iD c1)).trans c1)) (iD ((hc _ _ (iD c2)).trans c2)) ((hc _ _ (iD c1)).trans c1) ((hc _ _ (iD c2)).trans c2) (fun y hy=>by rw[hlist]at hy;exact Dj B a0 a1 a2 a3 a4 a5 a6 a7 r fr ta y hy hml hf ho m k hmk hnm hkr hm6 (by omega) h6 h7))))
end Uv
namespace Tf
theorem ZJ{l:List UInt8}(h:iM l=true):(0:UInt8) ∉ l:=by
 intro h0;simp only[iM,bu7]at h;have q:=List.all_eq_true.1 h.2 0 h0;revert q
 decide
theorem ZP(a b:List UInt8)(h:(0:UInt8) ∉ a):cut (a++ [0]++b)=some (a,b):=by
 rw[bq1];exact Uc a b h
theorem YG:∀fs:pO,fs.all Qn=true->kV (nW fs)=some fs
 |[],_=>FX
 |f::r,h=>by
  simp only[List.all_cons,bu7]at h;obtain⟨hf,hr⟩:=h;have ih:=YG r hr;simp only[Qn,bu7,beq_iff_eq]at hf;obtain⟨⟨hn,hl⟩,hv⟩:=hf;have e:nW (f::r)=f.1++ [0]++(f.2++ [0]++nW r):=by simp[nW,Uu]
  have hne:nW (f::r)≠ []:=by rw[e];simp
  have c1:cut (nW (f::r))=some (f.1,f.2++ [0]++nW r):=by rw[e];exact ZP _ _ (ZJ hn)
  have c2:cut (f.2++ [0]++nW r)=some (f.2,nW r):=ZP _ _ (ZJ hv);rw[bf6 hne c1 c2 hn hv,ih,hl]
theorem Za(fs:pO)(h:yK fs=true):Qr (nW fs)=some fs:=by
 simp only[yK,bu7]at h;unfold Qr;rw[YG fs h.1];simp only[h.2,bA3]
theorem WL(n:Nat)(h:n<65536)(r:List UInt8):((TU n++r).getD 0 0).toNat*256+((TU n++r).getD 1 0).toNat=n:=by
 simp only[TU,bw1,bw8,List.getD_cons_zero,List.getD_cons_succ];rw[bx9,bx9];omega
theorem aq9:pg Qy=Qy:=by decide
def ZO(m:RH):Prop:=(m.op=1->m.block=0/\m.data=[])/\(m.op=6->m.block=0/\m.text=[]/\m.data=[])/\(m.op=3->m.text=[]/\m.fs=[])/\(m.op=4->m.text=[]/\m.data=[]/\m.fs=[])/\(m.op=5->m.data=[]/\m.fs=[])
theorem aM0(m:RH)(hk:UU m=0)(hp:ZO m)(hb:m.block<65536):U5 (U7 m)=(0,m):=by
 have ht:RS m=true:=by
  cases h:RS m with
  |true=>rfl
  |false=>unfold UU at hk;rw[bp0 h]at hk;simp at hk
 have hlen: ¬(m.op=3/\1024<m.data.length):=by
  intro h;unfold UU at hk;rw[bo4 (by rw[ht];simp),bp0 h]at hk;simp at hk
 have hw:U7 m=Mq m:=by unfold U7;rw[bp0 hk]
 rw[hw];obtain⟨op,bl,tx,da,fs⟩:=m;obtain⟨p1,p6,p3,p4,p5⟩:=hp;simp only at hb hlen p1 p6 p3 p4 p5;unfold RS at ht;simp only at ht;have two:∀(n:Nat) (r:List UInt8),¬(TU n++r).length<2:=fun n r=>by simp[TU]
 have drp:∀(n:Nat) (r:List UInt8),(TU n++r).drop 2=r:=fun n r=>by simp[TU]
 by_cases o1:op=1
 ·subst o1
  obtain⟨rfl,rfl⟩:=p1 rfl;simp only[bA3,bu7]at ht;have e:Mq ⟨1,0,tx,[],fs⟩=TU 1++(tx++ [0]++(Qy++ [0]++nW fs)):=by simp[Mq]
  rw[e];unfold U5;rw[bo4 (two _ _),WL 1 (by decide),drp];simp only[bA3];rw[ZP tx _ (ZJ ht.1)];simp only[ht.1];rw[ZP Qy _ (by decide)];simp only[aq9,Za fs ht.2];simp
 by_cases o6:op=6
 ·subst o6
  obtain⟨rfl,rfl,rfl⟩:=p6 rfl;simp only[show ¬(6:Nat)=1 by decide,bz1,bA3]at ht;have e:Mq ⟨6,0,[],[],fs⟩=TU 6++nW fs:=by simp[Mq]
  rw[e];unfold U5;rw[bo4 (two _ _),WL 6 (by decide),drp];simp[Za fs ht]
 rw[bo4 o1,bo4 o6]at ht;have h345:op=3∨op=4∨op=5:=by
  by_cases o5:op=5
  ·exact bo3 (bo3 o5)
  rw[bo4 o5]at ht;simp only[Bool.or_eq_true,beq_iff_eq]at ht
  rcases ht with h|h
  ·exact bo1 h
  exact bo3 (bo1 h)
 rcases h345 with rfl|rfl|rfl
 ·obtain⟨rfl,rfl⟩:=p3 rfl
  have e:Mq ⟨3,bl,[],da,[]⟩=TU 3++(TU bl++da):=by simp[Mq]
  rw[e];unfold U5;rw[bo4 (two _ _),WL 3 (by decide),drp];simp only[show ¬(3:Nat)=1 by decide,show ¬(3:Nat)=6 by decide,bz1,true_or,bA3];rw[bo4 (two _ _),WL bl hb,drp,bo4 (by intro h;exact hlen ⟨rfl,h⟩)]
 ·obtain⟨rfl,rfl,rfl⟩:=p4 rfl
  have e:Mq ⟨4,bl,[],[],[]⟩=TU 4++(TU bl++ []):=by simp[Mq]
  rw[e];unfold U5;rw[bo4 (two _ _),WL 4 (by decide),drp];simp only[show ¬(4:Nat)=1 by decide,show ¬(4:Nat)=6 by decide,show ¬(4:Nat)=3 by decide,bz1,true_or,or_true,bA3];rw[bo4 (two _ _),WL bl hb,drp,bp0 rfl]
 obtain⟨rfl,rfl⟩:=p5 rfl;simp only[bA3,Bool.not_eq_true']at ht;have h0:(0:UInt8) ∉ tx:=by simpa using ht
 have e:Mq ⟨5,bl,tx,[],[]⟩=TU 5++(TU bl++(tx++ [0]++ [])):=by simp[Mq]
 rw[e];unfold U5;rw[bo4 (two _ _),WL 5 (by decide),drp];simp only[show ¬(5:Nat)=1 by decide,show ¬(5:Nat)=6 by decide,show ¬(5:Nat)=3 by decide,show ¬(5:Nat)=4 by decide,bz1,or_true,bA3];rw[bo4 (two _ _),WL bl hb,drp,ZP tx [] h0];simp
end Tf
namespace Dh
open Bs
open Rd (iL iH jD iR)
theorem wW:(prog.info? 9).map (fun i=>(i.zero,i.size,i.bytes))=some (some (.string ⟨#[]⟩),1,16):=by kernel_rfl
theorem Jy(a:Option Addr)(cap:Nat)(os:gU)(w:fV)(hA:At w a os)(hl:heavy os<=268435456):
  f_ Vh 228 #[.slice a os.length cap,.int .u8 52] w fun e w'=>
   e=.returned (.tuple #[.string ⟨(data os 52).toArray⟩,.bool (has os 52)])/\gm w.heap.size w w':=nN a cap os 52 w hA hl
theorem GA(a:Option Addr)(cap:Nat)(os:gU)(w:fV)(hA:At w a os)(hl:heavy os<=268435456):
  f_ Vh 229 #[.slice a os.length cap,.int .u8 52] w fun e w'=>
   ∃v,e=.returned v/\w'.ownsRow w.heap.size 138 2 v (drop os 52).length (gT (drop os 52))/\gm w.heap.size w w':=Ea a cap os 52 w hA hl
def pE(d:List UInt8)(host file:ByteArray):List ByteArray:=(if m_ d then [file]else [])++(if yX d then [host]else [])
def Eu(os:gU)(host file:ByteArray)(w:fV)(e:Ending)(w':fV):Prop:=
 gm w.heap.size w w'/\(if has os 52 then(if kM (data os 52)then ∃v,e=.returned v/\w'.ownsRow w.heap.size 9 1 v (pE (data os 52) host file).length ((pE (data os 52) host file).map Value.string)else e=.panicked (iH 2))else e=.returned (.slice none 0 0))
theorem Ki(a:Option Addr)(cap:Nat)(os:gU)(host file:ByteArray)(w:fV)(hA:At w a os)(hl:heavy os<=268435456):
  f_ Vh 227 #[.slice a os.length cap,.string host,.string file] w fun e w'=>Eu os host file w e w':=by
 obtain⟨i0,hi,hz0,hz1,hz2⟩:=ol wW;have HD:=Fe (Jy a cap os w hA hl);unfold Eu;obtain⟨d,hd⟩:=ex_ (data os 52);obtain⟨p,hp⟩:=ex_ (has os 52);rw[<-hd,<-hp]at HD ⊢;clear hA hd hp
 cases p with
 |false=>
  go_enter func227,ntmps227;go_wp2_with fail;refine on_ HD fun w1 hb1=>?_;have HB1:=Fe hb1;have hz1w:=hb1.size;clear hb1 HD;go_wp2;go_ret;exact⟨HB1,rfl⟩
 |true=>
  match d with
  |[]=>
   go_enter func227,ntmps227;go_wp2_with fail;refine on_ HD fun w1 hb1=>?_;have HB1:=Fe hb1;have hz1w:=hb1.size;clear hb1 HD;go_wp2_with fail;refine(iR _ (by simp) _ _).mono ?_;rintro e w2 ⟨rfl,rfl⟩;exact⟨rfl,HB1,rfl⟩
  |x::y::r=>
   have hsz:(⟨(x::y::r).toArray⟩:ByteArray).size=r.length+2:=by rw[gL];simp
   obtain⟨s,hs⟩:∃s:ByteArray,s=⟨(x::y::r).toArray⟩:=⟨_,rfl⟩;rw[<-hs]at hsz HD;have hne:((s.size:Int)==1)=false:=by simp;omega
   clear hs hsz;go_enter func227,ntmps227;go_wp2_with fail;refine on_ HD fun w1 hb1=>?_;have HB1:=Fe hb1;have hz1w:=hb1.size;clear hb1 HD;go_wp2_with fail;refine(iR _ (by simp) _ _).mono ?_;rintro e w2 ⟨rfl,rfl⟩;exact⟨rfl,HB1,rfl⟩
  |[x]=>
   have hx8:=x.toNat_lt;have hix:∀u,(Instr.index 9 (.string ⟨#[x]⟩) (.int .i64 0)).run Vh u=.ok (.int .u8 x.toNat) u:=fun _=>by kernel_rfl
   by_cases hok:1<=x.toNat/\x.toNat<=3
   ·have hcase:x.toNat=1∨x.toNat=2∨x.toNat=3:=by omega
    have hAD:kM [x]=true:=by simp[kM,hok]
    rw[hAD]
    rcases hcase with e0|e0|e0
    ·rw[e0]at hix
     have hS:pE [x] host file=[file]:=by simp[pE,m_,yX,e0]
     rw[hS];clear hok hAD e0 hx8 hS;go_enter func227,ntmps227;go_wp2_with fail;refine on_ HD fun w1 hb1=>?_;have HB1:=Fe hb1;have hz1w:=hb1.size;clear hb1 HD;go_wp2_with fail;refine(jD _ (by simp) _ _).mono ?_;rintro e w2 ⟨rfl,rfl⟩;go_wp2_with (at_builtin;refine br5 _ rfl (.tmp 35) (.tmp 37) 44 rfl w.heap.size 9 i0 (.string ⟨#[]⟩) 1 16 by2 hi hz0 hz1 hz2 rfl (by decide) _ 0 [] rfl ((bq3 _ _ _ _)) (a_ w2.heap.size 0) 1 1 [.string file] rfl rfl ?c1 ?one ?h63 ?hby ?hba ?_)
     case c1=>exact iW w2 [.string file] 9
     case one=>intro u hu;simp at hu;subst hu;rfl
     case h63=>simp only[maxLen];omega
     case hby=>omega
     case hba=>simp;omega
     intro A wA hownA hgA _;obtain⟨ao,cp,hv⟩:=ib hownA;subst hv;have hBB:gm w.heap.size w wA:=(HB1.alloc hz1w _).grown hgA (by simp;omega) (fun k hk=>by simp[Value.ownBlock]at hk);have OO:=Fe hownA;have BB:=Fe hBB;clear hownA hgA hBB;go_wp2;go_ret;exact⟨BB,_,rfl,OO⟩
    ·rw[e0]at hix
     have hS:pE [x] host file=[host]:=by simp[pE,m_,yX,e0]
     rw[hS];clear hok hAD e0 hx8 hS;go_enter func227,ntmps227;go_wp2_with fail;refine on_ HD fun w1 hb1=>?_;have HB1:=Fe hb1;have hz1w:=hb1.size;clear hb1 HD;go_wp2_with fail;refine(jD _ (by simp) _ _).mono ?_;rintro e w2 ⟨rfl,rfl⟩;go_wp2_with (at_builtin;refine br5 _ rfl (.tmp 43) (.tmp 45) 44 rfl w.heap.size 9 i0 (.string ⟨#[]⟩) 1 16 by2 hi hz0 hz1 hz2 rfl (by decide) _ 0 [] rfl ((bq3 _ _ _ _)) (a_ w2.heap.size 0) 1 1 [.string host] rfl rfl ?c1 ?one ?h63 ?hby ?hba ?_)
     case c1=>exact iW w2 [.string host] 9
     case one=>intro u hu;simp at hu;subst hu;rfl
     case h63=>simp only[maxLen];omega
     case hby=>omega
     case hba=>simp;omega
     intro A wA hownA hgA _;obtain⟨ao,cp,hv⟩:=ib hownA;subst hv;have hBB:gm w.heap.size w wA:=(HB1.alloc hz1w _).grown hgA (by simp;omega) (fun k hk=>by simp[Value.ownBlock]at hk);have OO:=Fe hownA;have BB:=Fe hBB;clear hownA hgA hBB;go_wp2;go_ret;exact⟨BB,_,rfl,OO⟩
    rw[e0]at hix;have hS:pE [x] host file=[file,host]:=by simp[pE,m_,yX,e0]
    rw[hS];clear hok hAD e0 hx8 hS;go_enter func227,ntmps227;go_wp2_with fail;refine on_ HD fun w1 hb1=>?_;have HB1:=Fe hb1;have hz1w:=hb1.size;clear hb1 HD;go_wp2_with fail;refine(jD _ (by simp) _ _).mono ?_;rintro e w2 ⟨rfl,rfl⟩;go_wp2_with (at_builtin;refine br5 _ rfl (.tmp 35) (.tmp 37) 44 rfl w.heap.size 9 i0 (.string ⟨#[]⟩) 1 16 by2 hi hz0 hz1 hz2 rfl (by decide) _ 0 [] rfl ((bq3 _ _ _ _)) (a_ w2.heap.size 0) 1 1 [.string file] rfl rfl ?c1 ?one ?h63 ?hby ?hba ?_)
    case c1=>exact iW w2 [.string file] 9
    case one=>intro u hu;simp at hu;subst hu;rfl
    case h63=>simp only[maxLen];omega
    case hby=>omega
    case hba=>simp;omega
    intro A wA hownA hgA _;obtain⟨ao,cp,hv⟩:=ib hownA;have hBA:gm w.heap.size w wA:=(HB1.alloc hz1w _).grown hgA (by simp;omega) (fun k hk=>by simp[Value.ownBlock]at hk);have hzA:=hBA.size;have OA:=Fe hownA;have BA:=Fe hBA;clear hownA hgA hBA;subst hv;go_wp2_with (at_builtin;refine br5 _ rfl (.tmp 43) (.tmp 45) 44 rfl w.heap.size 9 i0 (.string ⟨#[]⟩) 1 16 by2 hi hz0 hz1 hz2 rfl (by decide) _ 1 [.string file] rfl ((OA.alloc _)) (a_ wA.heap.size 0) 1 1 [.string host] rfl rfl ?c1 ?one ?h63 ?hby ?hba ?_)
    case c1=>exact iW wA [.string host] 9
    case one=>intro u hu;simp at hu;subst hu;rfl
    case h63=>simp only[maxLen];omega
    case hby=>omega
    case hba=>simp;omega
    intro B wB hownB hgB _;obtain⟨ao,cp,hv⟩:=ib hownB;subst hv;have hBB:gm w.heap.size w wB:=(BA.alloc hzA _).grown hgB (by simp;omega) (fun k hk=>(OA.lt k hk).1);have OO:=Fe hownB;have BB:=Fe hBB;clear hownB hgB hBB;go_wp2;go_ret;exact⟨BB,_,rfl,OO⟩
   have hAD:kM [x]=false:=by simp[kM];omega
   rw[hAD]
   by_cases e0:x.toNat=0
   ·rw[e0]at hix
    clear hok hAD e0 hx8;go_enter func227,ntmps227;go_wp2_with fail;refine on_ HD fun w1 hb1=>?_;have HB1:=Fe hb1;have hz1w:=hb1.size;clear hb1 HD;go_wp2_with fail;refine(iR _ (by simp) _ _).mono ?_;rintro e w2 ⟨rfl,rfl⟩;exact⟨rfl,HB1,rfl⟩
   have q0:(((x.toNat:Nat):Int)!=0)=true:=by simp;omega
   have q1: ¬((x.toNat:Nat):Int)<=3:=by omega
   clear hok hAD e0 hx8;go_enter func227,ntmps227;go_wp2_with fail;refine on_ HD fun w1 hb1=>?_;have HB1:=Fe hb1;have hz1w:=hb1.size;clear hb1 HD;go_wp2_with fail;refine(iR _ (by simp;omega) _ _).mono ?_;rintro e w2 ⟨rfl,rfl⟩;exact⟨rfl,HB1,rfl⟩
end Dh
namespace Dh
open Bs
open Rd (gH)
structure J1 (w wr:fV) (pd pt:List Pc) (v5:Value) (outs:List Pc) (V:Nat->Value):Prop where
 row:o_ wr w.heap.size 305 V
 told:o_ wr (w.heap.size+1) 306 (fun j=>.bool (has pt (UInt8.ofNat j)))
 own:∀j,j<256->wr.ownsRow (w.heap.size+2) 5 1 (V j) (data pd (UInt8.ofNat j)).length (gY (data pd (UInt8.ofNat j)))
 apart:∀i j g,i<256->j<256->i≠j->(V i).ownBlock=some g->(V j).ownBlock≠some g
 out:wr.ownsRow (w.heap.size+2) 138 2 v5 outs.length (gT outs)
 below:gm w.heap.size w wr
theorem kinds{wr:fV}{b:Nat}{v v5:Value}{n m:Nat}{xs ys:List Value}(h:wr.ownsRow b 5 1 v n xs)(h5:wr.ownsRow b 138 2 v5 m ys):∀g,v.ownBlock=some g->v5.ownBlock≠some g:=fun g hg h5g=>by
 obtain⟨c,fz,e1⟩:=Lib.ownsRow_kind h g hg;obtain⟨c',fz',e2⟩:=Lib.ownsRow_kind h5 g h5g;rw[e1]at e2;simp at e2
theorem not_row{r:Option Nat}{v:Value}(h:∀g,v.ownBlock=some g->r≠some g):v.ownBlock=none∨v.ownBlock≠r:=by
 cases hv:v.ownBlock with
 |none=>exact bo1 rfl
 |some g=>exact bo3 (fun e=>h g hv e.symm)
theorem vX(c:UInt8):UInt8.ofNat c.toNat=c:=by simp
theorem BU{c:UInt8}{j:Nat}(hj:j<256)(h: ¬j=c.toNat): ¬c=UInt8.ofNat j:=fun e=>h (by
 rw[e,bx9];omega)
theorem J1.TA{w wr w1:fV}{ps:List Pc}{v5 v':Value}{outs:List Pc}{V:Nat->Value}(h:J1 w wr ps ps v5 outs V)(c:UInt8)(d:List UInt8)(n:Nat)(hn:n=(data ps c).length+d.length)
  (hown:w1.ownsRow (w.heap.size+2) 5 1 v' n (gY (data ps c)++gY d)) (hg:wr.grownBy w1 (V c.toNat).ownBlock)
  (hat:v'.ownBlock=(V c.toNat).ownBlock∨∀g,v'.ownBlock=some g->wr.heap.size<=g):
  J1 w (w1.setCell (a_ w.heap.size c.toNat) v') (ps++ [(c,d)]) ps v5 outs (fun j=>if j=c.toNat then v' else V j):=by
 have hc:=c.toNat_lt;have hX:∀g,(V c.toNat).ownBlock=some g->w.heap.size+2<=g/\g<wr.heap.size:=fun g hg=>(h.own c.toNat hc).lt g hg;have hD:w1.heap[w.heap.size]?=wr.heap[w.heap.size]?:=hg.block _ h.row.lt (fun e=>by have:=(hX _ e.symm).1;omega);have hT:w1.heap[w.heap.size+1]?=wr.heap[w.heap.size+1]?:=hg.block _ h.told.lt (fun e=>by have:=(hX _ e.symm).1;omega);have r1:=(h.row.kept hD).set c.toNat hc v';refine⟨r1,?_,?_,?_,?_,?_⟩
 ·exact(h.told.kept hT).kept (bo0 _ _ _ _ (by simp))
 ·intro j hj
  by_cases e:j=c.toNat
  ·subst e
   simp only[bp0];refine bs0 ?_ (by show w.heap.size<_;omega) _;rw[vX,qx,bp0 rfl,bn6,pY,<-hn];exact hown
  simp only[bo4 e];refine bs0 ?_ (by show w.heap.size<_;omega) _;rw[qx,bo4 (BU hj e),br8];exact(h.own j hj).kept hg (not_row (fun g hgj hX=>h.apart c.toNat j g hc hj (fun e'=>e e'.symm) hX hgj))
 ·intro i j g hi hj hij hvi hvj
  by_cases ei:i=c.toNat
  ·have ej: ¬j=c.toNat:=fun e=>hij (ei.trans e.symm)
   simp only[bp0 ei]at hvi;simp only[bo4 ej]at hvj
   rcases hat with hat|hat
   ·rw[hat]at hvi
    exact h.apart c.toNat j g hc hj (fun e=>ej e.symm) hvi hvj
   have h1:=hat g hvi;have h2:=((h.own j hj).lt g hvj).2;omega
  simp only[bo4 ei]at hvi
  by_cases ej:j=c.toNat
  ·simp only[bp0 ej]at hvj
   rcases hat with hat|hat
   ·rw[hat]at hvj
    exact h.apart i c.toNat g hi hc ei hvi hvj
   have h1:=hat g hvj;have h2:=((h.own i hi).lt g hvi).2;omega
  simp only[bo4 ej]at hvj;exact h.apart i j g hi hj hij hvi hvj
 ·refine bs0 (h.out.kept hg (not_row (fun g hg5 hXg=>kinds (h.own c.toNat hc) h.out g hXg hg5))) (by show w.heap.size<_;omega) _
 exact(h.below.grown hg h.below.size (fun g hgg=>by have:=(hX g hgg).1;omega)).setCell (bn7 _) _
theorem J1.Sa{w wr:fV}{ps:List Pc}{v5:Value}{outs:List Pc}{V:Nat->Value}{c:UInt8}{d:List UInt8}(h:J1 w wr (ps++ [(c,d)]) ps v5 outs V)(hc:has ps c=true):J1 w wr (ps++ [(c,d)]) (ps++ [(c,d)]) v5 outs V:=
 ⟨h.row,h.told.same (fun j hj=>by
  rw[sZ]
  by_cases e:c=UInt8.ofNat j
  ·rw[<-e,hc];rfl
  have:(c==UInt8.ofNat j)=false:=by simpa using e
  rw[this,bE2]),h.own,h.apart,h.out,h.below⟩
theorem J1.stepT{w wr:fV}{ps:List Pc}{v5:Value}{outs:List Pc}{V:Nat->Value}{c:UInt8}{d:List UInt8}(h:J1 w wr (ps++ [(c,d)]) ps v5 outs V):J1 w (wr.setCell (a_ (w.heap.size+1) c.toNat) (.bool true)) (ps++ [(c,d)]) (ps++ [(c,d)]) v5 outs V:=
 ⟨h.row.kept (bo0 _ _ _ _ (by simp)),(h.told.set c.toNat c.toNat_lt (.bool true)).same (fun j hj=>by
  by_cases e:j=c.toNat
  ·subst e
   simp only[bp0];rw[vX,sZ];simp
  simp only[bo4 e];rw[sZ];have:=BU hj e;have hb:(c==UInt8.ofNat j)=false:=by simpa using this
  rw[hb,bE2]),fun j hj=>bs0 (h.own j hj) (by show w.heap.size+1<_;omega) _,h.apart,bs0 h.out (by show w.heap.size+1<_;omega) _,h.below.setCell (by simp) _⟩
theorem J1.SI{w wr w4:fV}{pd pt:List Pc}{v5 v':Value}{outs:List Pc}{V:Nat->Value}(h:J1 w wr pd pt v5 outs V)(o:Pc)(n:Nat)(hn:n=outs.length+1)
  (hown:w4.ownsRow (w.heap.size+2) 138 2 v' n (gT outs++gT [o])) (hg:wr.grownBy w4 v5.ownBlock):J1 w w4 pd pt v' (outs++ [o]) V:=by
 have hX:∀g,v5.ownBlock=some g->w.heap.size+2<=g/\g<wr.heap.size:=fun g hg=>h.out.lt g hg;refine⟨h.row.kept (hg.block _ h.row.lt (fun e=>by have:=(hX _ e.symm).1;omega)),h.told.kept (hg.block _ h.told.lt (fun e=>by have:=(hX _ e.symm).1;omega)),fun j hj=>(h.own j hj).kept hg (not_row (fun g hgj=>kinds (h.own j hj) h.out g hgj)),h.apart,?_,h.below.grown hg h.below.size (fun g hgg=>by have:=(hX g hgg).1;omega)⟩;rw[bn6,iV];rw[hn]at hown;exact hown
theorem zH(outs:List Pc)(i:Nat)(hi:i<outs.length)(d:List UInt8):(gT outs).set (i*2+1) (.string ⟨d.toArray⟩)=gT (outs.set i ((outs[i]).1,d)):=by
 induction outs generalizing i with
 |nil=>simp at hi
 |cons o r ih=>
  cases i with
  |zero=>rfl
  |succ i=>
   have:=ih i (by simpa using hi);simp only[gT,bu9,bm9,bn1]at this ⊢;rw[<-this,show(i+1)*2+1=i*2+1+1+1 by omega];rfl
theorem J1.SG{w wr:fV}{pd pt:List Pc}{g cap:Nat}{outs:List Pc}{V:Nat->Value}(h:J1 w wr pd pt (.slice (some (a_ g 0)) outs.length cap) outs V)(i:Nat)(hi:i<outs.length)(d:List UInt8):
  J1 w (wr.setCell (a_ g (i*2+1)) (.string ⟨d.toArray⟩)) pd pt (.slice (some (a_ g 0)) outs.length cap) (outs.set i ((outs[i]).1,d)) V:=by
 have hX:=h.out.lt g rfl;obtain⟨s1,s2⟩:=h.out.stored (i*2+1) (.string ⟨d.toArray⟩);refine⟨h.row.kept (bo0 _ _ _ _ (by simp;omega)),h.told.kept (bo0 _ _ _ _ (by simp;omega)),fun j hj=>ownsRow_setCell_other (h.own j hj) (fun e=>kinds (h.own j hj) h.out g e rfl) _,h.apart,?_,h.below.setCell (by show w.heap.size<=g;omega) _⟩;rw[zH outs i hi d]at s1;rw[bz9];exact s1
theorem OI:Tryz.zeroCells305=Ka (fun _=>.slice none 0 0):=by kernel_rfl
theorem Ov:Tryz.zeroCells306=Ka (fun _=>.bool false):=by kernel_rfl
theorem J1.start(w:fV):J1 w ((w.alloc (.cells Tryz.zeroCells305 305)).alloc (.cells Tryz.zeroCells306 306)) [] [] (.slice none 0 0) [] (fun _=>.slice none 0 0):=by
 have h0:(w.alloc (.cells Tryz.zeroCells305 305)).heap.size=w.heap.size+1:=by simp
 refine⟨?_,?_,fun j hj=>bq3 _ _ _ _,fun i j g _ _ _ hg=>by simp[Value.ownBlock]at hg,bq3 _ _ _ _,b1_.alloc (by simp) _⟩
 ·unfold o_
  rw[bn8 _ _ _ (by simp),<-OI];exact bn3 w _
 have q:=bn3 (w.alloc (.cells Tryz.zeroCells305 305)) (.cells Tryz.zeroCells306 306);rw[h0]at q;unfold o_;rw[q,Ov];rfl
theorem J1.alloc{w wr:fV}{pd pt:List Pc}{v5:Value}{outs:List Pc}{V:Nat->Value}(h:J1 w wr pd pt v5 outs V)(o:Obj):J1 w (wr.alloc o) pd pt v5 outs V:=
 ⟨h.row.kept (bn8 _ _ _ h.row.lt),h.told.kept (bn8 _ _ _ h.told.lt),fun j hj=>(h.own j hj).alloc o,h.apart,h.out.alloc o,h.below.alloc h.below.size o⟩
theorem nT{w:fV}{b b' e z:Nat}{v:Value}{n:Nat}{xs:List Value}(h:w.ownsRow b e z v n xs)(hb:b'<=b):w.ownsRow b' e z v n xs:=
 ⟨h.1,h.2.imp id (fun⟨g,cap,cur,e1,e2,r⟩=>⟨g,cap,cur,e1,bo6 hb e2,r⟩)⟩
theorem jv{w:fV}{b e z:Nat}{ao:Option Addr}{m cp:Nat}{n:Nat}{xs:List Value}(h:w.ownsRow b e z (.slice ao m cp) n xs)(hn:0<n):∃g,ao=some (a_ g 0)/\b<=g:=by
 rcases h.2 with⟨_,h0⟩|⟨g,cap,cur,hv,hb,_⟩
 ·omega
 cases hv
 exact⟨g,rfl,hb⟩
def lT(os:gU)(cs:List UInt8)(q:Nat):List Pc:=((cs.take q).map fun c=>(c,data os c))++((cs.drop q).map fun c=>(c,[]))
theorem JV(os:gU)(cs:List UInt8):lT os cs 0=cs.map fun c=>(c,[]):=by simp[lT]
theorem KI(os:gU)(cs:List UInt8):lT os cs cs.length=cs.map fun c=>(c,data os c):=by simp[lT]
theorem qE(os:gU)(cs:List UInt8)(q:Nat)(hq:q<=cs.length):(lT os cs q).length=cs.length:=by simp[lT];omega
theorem Ll(os:gU)(cs:List UInt8)(q:Nat)(hq:q<cs.length):(lT os cs q)[q]?=some (cs[q],[]):=by
 simp only[lT];rw[bu5 (by simp;omega)];simp[hq,bD0 (bv6 hq)]
theorem Kl(os:gU)(cs:List UInt8)(q:Nat)(hq:q<cs.length):(lT os cs q).set q (cs[q],data os cs[q])=lT os cs (q+1):=by
 apply bA4;intro i;rw[List.getElem?_set];have h1:(lT os cs q).length=cs.length:=qE os cs q (by omega);have h2:(lT os cs (q+1)).length=cs.length:=qE os cs (q+1) (by omega)
 by_cases e:q=i
 ·subst e
  rw[bp0 rfl,bp0 (by omega)];simp only[lT];rw[bw9 (by simp;omega)];simp[hq]
 rw[bo4 e];simp only[lT]
 by_cases hi:i<q
 ·rw[bw9 (by simp;omega),bw9 (by simp;omega)]
  simp[hi,show i<q+1 by omega]
 rw[bu5 (by simp;omega),bu5 (by simp;omega)];simp only[bz0,bp7,bA0,List.getElem?_drop];congr 2
 omega
theorem Qf{w wr w1:fV}{ps:List Pc}{v5 v':Value}{outs:List Pc}{V:Nat->Value}(h:J1 w wr ps ps v5 outs V)(c:UInt8)(d:List UInt8)(s:ByteArray)(hs:s.data.toList=d)
  (hg:(wr.alloc (.cells #[.int .u8 c.toNat,.string s] 138)).drew.grownBy w1 (V c.toNat).ownBlock) (hat:v'.ownBlock=(V c.toNat).ownBlock∨∀g,v'.ownBlock=some g->(wr.alloc (.cells #[.int .u8 c.toNat,.string s] 138)).drew.heap.size<=g)
  (hown:w1.ownsRow (w.heap.size+2) 5 1 v' ((data ps c).length+s.size) (gY (data ps c)++Lib.strCells s)):
  w1.cell? (a_ wr.heap.size 0)=some (.int .u8 c.toNat)/\w1.cell? (a_ wr.heap.size 1)=some (.string s)/\w1.cell? (a_ w.heap.size c.toNat)=some (V c.toNat)/\w1.frozen? (a_ w.heap.size c.toNat)=false/\
   Hid (J1 w (w1.setCell (a_ w.heap.size c.toNat) v') (ps++ [(c,d)]) ps v5 outs (fun j=>if j=c.toNat then v' else V j)/\w1.heap[wr.heap.size]?=some (.cells #[.int .u8 c.toNat,.string s] 138 (0,0)))/\∃ao cp,v'=.slice ao ((data ps c).length+s.size) cp:=by
 have hc:=c.toNat_lt;have hX:∀g,(V c.toNat).ownBlock=some g->w.heap.size+2<=g/\g<wr.heap.size:=fun g hg=>(h.own c.toNat hc).lt g hg;have hgw:wr.grownBy w1 (V c.toNat).ownBlock:=⟨hg.os,hg.tape,hg.output,bo6 (by simp) hg.size,fun b hb hne=>(hg.block b (by simp;omega) hne).trans (bn8 _ _ _ hb)⟩;have hbox:w1.heap[wr.heap.size]?=some (.cells #[.int .u8 c.toNat,.string s] 138 (0,0)):=by
  rw[hg.block _ (by simp) (fun e=>by have:=(hX _ e.symm).2;omega)];exact bn3 wr _
 have hD:o_ w1 w.heap.size 305 V:=h.row.kept (hgw.block _ h.row.lt (fun e=>by have:=(hX _ e.symm).1;omega));have hsz:s.size=d.length:=by rw[<-hs,bp2];rfl
 refine⟨by rw[bn0 w1 wr.heap.size 0 _ _ _ hbox];rfl,by rw[bn0 w1 wr.heap.size 1 _ _ _ hbox];rfl,hD.cell _ hc,hD.free _,Fe ⟨?_,hbox⟩,ib hown⟩;refine h.TA c d ((data ps c).length+s.size) (by rw[hsz]) ?_ hgw ?_
 ·have e8:gY d=Lib.strCells s:=by rw[<-hs];rfl
  rw[e8];exact hown
 rcases hat with hat|hat
 ·exact bo1 hat
 exact bo3 (fun g hgg=>by have:=hat g hgg;simp at this;omega)
theorem zq(a:Option Addr)(cap:Nat)(os:gU)(w:fV)(hA:At w a os)(hl:heavy os<=268435456):
  f_ Vh 230 #[.slice a os.length cap] w fun e w'=>
   ∃v,e=.returned v/\w'.ownsRow w.heap.size 138 2 v (gW [] os).length (gT (gW [] os))/\gm w.heap.size w w':=by
 obtain⟨i0,hi,hz0,hz1,hz2⟩:=ol tu;obtain⟨i1,hj,hy0,hy1,hy2⟩:=ol lM;have hlen:os.length<=heavy os:=by unfold heavy;omega
 have HA:=Fe hA;clear hA;go_enter func230,ntmps230;go_wp2;go_loopw [5,11] (fun v5 i wr=>∃(k:Nat) (cs:List UInt8) (V:Nat->Value),k<=os.length/\cs.length<=k/\i=.int .i64 k/\Hid (Jl (os.take k) cs)/\Hid (J1 w wr (os.take k) (os.take k) v5 (cs.map fun c=>(c,[])) V)) (fun _ i _=>os.length-(intOf i).toNat)
 case atStart=>exact⟨0,[],_,bp3 _,bn7 _,rfl,Fe Jl.nil,Fe (J1.start w)⟩
 obtain⟨k,cs,V,hk,hcs,rfl,HJ,HI⟩:=hrel;rename fV=>wr
 by_cases hlt:k<os.length
 ·obtain⟨ad,rfl,c0,c1⟩:=HA.below HI.below (bn7 _) k hlt
  obtain⟨oc,od,hcd⟩:∃x y,os[k]=(x,y):=⟨_,_,rfl⟩;have ht:=uQ os k hlt;have htl:=vQ os (k+1);have hdl:=vL (os.take k) oc;have htk:os.take (k+1)=os.take k++ [(oc,od)]:=by rw[bo8 hlt,hcd]
  rw[hcd]at c0 c1 ht;simp only at c0 c1 ht;have HTK:=Fe htk;have hc8:=oc.toNat_lt;have hc0:(0:Int)<=(oc.toNat:Int):=by omega
  have hc1:((oc.toNat:Nat):Int)<256:=by omega
  obtain⟨s,hS⟩:∃s:ByteArray,s=⟨od.toArray⟩:=⟨_,rfl⟩;have hsz:s.size=od.length:=by rw[hS];exact gL od
  have hst:s.data.toList=od:=by rw[hS]
  rw[<-hS]at c1;have HS:=Fe hst;have HSZ:=Fe hsz;have hwz:w.heap.size+2<=wr.heap.size:=by have:=HI.told.lt;omega
  have hDc:∀o,(wr.alloc o).cell? (a_ w.heap.size oc.toNat)=some (V oc.toNat):=fun o=>(HI.alloc o).row.cell oc.toNat hc8;have hOw:=HI.own oc.toNat hc8;rw[vX]at hOw;have HOW:=Fe hOw;have hn0:(data (os.take k) oc).length+od.length<=268435456:=by omega
  have hn1:(data (os.take k) oc).length+s.size<=268435456:=by omega
  clear hcd htk hS hst hsz hOw ht htl hdl;have HIN:Hid (∃V',J1 w wr (os.take k) (os.take k) u5 (cs.map fun c=>(c,[])) V'):=Fe ⟨V,HI⟩;go_wp2;go_cut [] (fun wc=>Hid ((∃V',J1 w wc (os.take k++ [(oc,od)]) (os.take k) u5 (cs.map fun c=>(c,[])) V')/\wc.heap[wr.heap.size]?=some (.cells #[.int .u8 oc.toNat,.string s] 138 (0,0))));case first=>
   go_region_law (refine qR rfl (.tmp 20) (.tmp 22) 73 9 rfl (w.heap.size+2) 5 i0 br3 bs8 hi hz0 hz1 hz2 (V oc.toNat) _ _ (by simp[Act.eval]) (HOW.alloc _).drew s (by simp[Act.eval]) (by simp only[maxLen];omega) (by omega) (by simp;omega) ?_;intro v' w1 hown hg hat;obtain⟨b0,b1,d0,df,H2,ao,cp,hv'⟩:=Qf HI oc od s HS hg hat hown;clear hown hg hat;subst hv')
   all_goals go_wp2
   all_goals go_meet
   all_goals exact Fe ⟨⟨_,H2.1⟩,by rw[bo0 _ _ _ _ (by simp;omega)];exact H2.2⟩
  rename fV=>wc;obtain⟨⟨V',hJ2⟩,hbx⟩:=gB hcut;have hwcz:wr.heap.size<wc.heap.size:=bo2 hbx;have b0:wc.cell? (a_ wr.heap.size 0)=some (.int .u8 oc.toNat):=by rw[bn0 wc wr.heap.size 0 _ _ _ hbx];rfl
  have t0:wc.cell? (a_ (w.heap.size+1) oc.toNat)=some (.bool (has (os.take k) oc)):=by
   have q:=hJ2.told.cell oc.toNat hc8;simp only[vX]at q;exact q
  have tf:=hJ2.told.free oc.toNat;have HBX:=Fe hbx;have HJ2:=Fe hJ2;clear hcut hbx hJ2 hDc HOW HI HIN c0 c1
  by_cases hh:has (os.take k) oc=true
  ·rw[hh]at t0
   have HN:Hid (J1 w wc (os.take (k+1)) (os.take (k+1)) u5 (cs.map fun c=>(c,[])) V'):=Fe (by rw[gB HTK];exact HJ2.Sa hh);have HL:Hid (Jl (os.take (k+1)) cs):=Fe (by rw[gB HTK];exact HJ.step oc od hh);clear hh;go_wp2;go_roundw
   case rel=>exact⟨k+1,cs,V',by omega,by omega,by go_num,HL,HN⟩
   simp[intOf];omega
  have hh':has (os.take k) oc=false:=by simpa using hh
  rw[hh']at t0;have H3:=Fe (HJ2.stepT);have hb3:(wc.setCell (a_ (w.heap.size+1) oc.toNat) (.bool true)).cell? (a_ wr.heap.size 0)=some (.int .u8 oc.toNat):=by
   rw[bn0 _ wr.heap.size 0 _ _ _ ((bo0 _ _ _ _ (by simp;omega)).trans HBX)];rfl
  have HL:Hid (Jl (os.take (k+1)) (cs++ [oc])):=Fe (by rw[gB HTK];exact HJ.more oc od hh');clear hh hh';go_wp2_with (at_builtin;refine br5 _ rfl (.tmp 33) (.tmp 37) 200 rfl (w.heap.size+2) 138 i1 (.agg #[.int .u8 0,.string ⟨#[]⟩]) 2 24 bv1 hj hy0 hy1 hy2 rfl (by decide) _ _ _ rfl ((gB H3).out.alloc _) (a_ wc.heap.size 0) 1 1 [.int .u8 oc.toNat,.string ⟨#[]⟩] rfl rfl ?c1 ?one ?h63 ?hby ?hba ?_);case c1=>
   have q:=iW (wc.setCell (a_ (w.heap.size+1) oc.toNat) (.bool true)) [.int .u8 oc.toNat,.string ⟨#[]⟩] 138;simpa using q
  case one=>intro u hu;simp at hu;rcases hu with rfl|rfl<;>rfl
  case h63=>simp only[maxLen,bz0];omega
  case hby=>simp only[bz0];omega
  case hba=>simp;omega
  intro v' w4 hown hg _;have hJ4:=(H3.alloc (.cells #[.int .u8 oc.toNat,.string ⟨#[]⟩] 138)).SI (oc,[]) (cs.length+1) (by rw[bz0]) hown hg;have HN:Hid (J1 w w4 (os.take (k+1)) (os.take (k+1)) v' ((cs++ [oc]).map fun c=>(c,[])) V'):=Fe (by rw[gB HTK,bv7];exact hJ4);clear hown hg hJ4;go_wp2;go_roundw
  case rel=>exact⟨k+1,cs++ [oc],V',by omega,by simp only[bn6,bn5,bp6];omega,by go_num,HL,HN⟩
  simp[intOf];omega
 have e:k=os.length:=by omega
 subst e;rw[br0]at HJ HI;obtain⟨ao,cp,hv5⟩:=ib (gB HI).out;rw[bz0]at hv5;subst hv5;have HU:=Fe (JV os cs);go_wp2;go_loopw [42] (fun i wq=>∃(q:Nat),q<=cs.length/\i=.int .i64 q/\Hid (J1 w wq os os (.slice ao cs.length cp) (lT os cs q) V)) (fun i _=>cs.length-(intOf i).toNat)
 case atStart=>exact⟨0,bp3 _,rfl,Fe (by rw[gB HU];exact HI)⟩
 obtain⟨q,hq,rfl,HQ⟩:=hrel;rename fV=>wq
 by_cases hql:q<cs.length
 ·have hUl:=qE os cs q (by omega)
  have ho:=(gB HQ).out;obtain⟨g,rfl,hgb⟩:=jv ho (by rw[hUl];omega);obtain⟨c,hc⟩:=ex_ (cs[q]);have hget:(lT os cs q)[q]?=some (c,[]):=by rw[hc];exact Ll os cs q hql
  have hqU:q<(lT os cs q).length:=by rw[hUl];exact hql
  have hgetE:(lT os cs q)[q]=(c,[]):=by
   rw[bq7 hqU]at hget;exact bp4 hget
  have hset:(lT os cs q).set q (c,data os c)=lT os cs (q+1):=by rw[hc];exact Kl os cs q hql
  obtain⟨k0,k1⟩:=qP (lT os cs q) q hqU;rw[hgetE]at k0 k1;have hcl:=ho.cells (g:=g) rfl;have o0:=hcl _ _ k0;have o1:=hcl _ _ k1;rw[jB]at o0 o1;have hc8:=c.toNat_lt;have hcI:((c.toNat:Nat):Int)<256:=by omega
  rw[hUl]at ho;have hof:=fun j=>ho.frozenAt j;have d0:=HQ.row.cell c.toNat hc8;have hOw:=HQ.own c.toNat hc8;rw[vX]at hOw;have hcv:=oL wq _ (V c.toNat) _ hOw;have hJ:=(gB HQ);rw[<-hUl]at hJ;have hD:=hJ.SG q hqU (data os c);rw[hUl,hgetE,hset]at hD;have HD:=Fe hD;have hql2:(q:Int)<(cs.length:Int):=by omega
  obtain⟨sd,hsd⟩:∃sd:ByteArray,sd=⟨(data os c).toArray⟩:=⟨_,rfl⟩;rw[<-hsd]at hcv HD;obtain⟨av,pv,hV⟩:=ib hOw;rw[hV]at d0 hcv;clear ho hget hgetE hset k0 k1 hcl hOw hJ hD hUl hqU HI hc hsd hV;go_wp2;go_roundw
  case rel=>exact⟨q+1,by omega,by go_num,HD⟩
  simp[intOf];omega
 have e2:q=cs.length:=by omega
 subst e2;have HF:Hid (lT os cs cs.length=gW [] os):=Fe (by rw[HJ.all];exact KI os cs);go_wp2;go_ret;refine⟨_,rfl,?_,HQ.below⟩;have ho:=(gB HQ).out;rw[gB HF]at ho;have hl2:(gW [] os).length=cs.length:=by rw[HJ.all,bz0]
 rw[hl2]at ho ⊢;exact nT ho (by omega)
end Dh
namespace Dh
open Bs
open Rd (iL iH)
theorem jN(p:Pc)(r:List Pc):heavy (p::r)=1+p.2.length+heavy r:=by
 simp only[heavy,bn5,bv0,bB7];omega
theorem mM(a b:List Pc):heavy (a++b)=heavy a+heavy b:=by
 simp only[heavy,bv7,bC9,bn6];omega
theorem iQ(n:Nat):∀(l:List UInt8) (ps:List Pc),l.length<=n->pieces l=some ps->heavy ps<=l.length:=by
 induction n with
 |zero=>
  intro l ps hl h
  match l,hl with
  |[],_=>rw[qX]at h;cases h
 |succ n ih=>
  intro l ps hl h
  match l,hl with
  |[],_=>rw[qX]at h;cases h
  |c::r,hl=>
   by_cases e1:c.toNat=255
   ·rw[uS c r e1]at h
    cases h
    simp[heavy]
   by_cases e0:c.toNat=0
   ·rw[sW c r e0]at h
    have:=ih r ps (by simp at hl;omega) h;simp only[bn5];omega
   match r,hl with
   |[],_=>rw[tV c e1 e0]at h;cases h
   |m::q,hl=>
    by_cases hq:q.length<m.toNat
    ·rw[vB c m q e1 e0 hq]at h;cases h
    have h':=(sD c m q e1 e0 hq).symm.trans h
    cases hp:pieces (q.drop m.toNat)with
    |none=>rw[hp]at h';cases h'
    |some ps'=>
     rw[hp]at h';obtain rfl:=bp4 h';have:=ih (q.drop m.toNat) ps' (by simp at hl ⊢;omega) hp;rw[bq8]at this;rw[jN];simp only[bn5,bp7];omega
theorem IJ(ps:List Pc)(c:UInt8):heavy (drop ps c)<=heavy ps:=by
 induction ps with
 |nil=>exact bn7 _
 |cons p r ih=>
  simp only[drop,bA9]at ih ⊢
  split
  ·rw[jN,jN];omega
  rw[jN];omega
def jm:List ByteArray->Option (List Pc)
 |[]=>some []
 |a::r=>(pieces a.data.toList).bind fun p=>(jm r).map fun q=>p++q
def strsOf(ps:List Pc)(host file:ByteArray):List ByteArray:=if has ps 52 then pE (data ps 52) host file else []
theorem OJ(ps:List Pc)(host file:ByteArray):(strsOf ps host file).length<=2:=by
 unfold strsOf pE
 split
 ·rw[bn6];split<;>split<;>simp
 simp
theorem Oi(ps:List Pc)(host file:ByteArray)(n:Nat)(hh:host.size<=n)(hf:file.size<=n):∀s ∈ strsOf ps host file,s.size<=n:=fun s hs=>by
 unfold strsOf pE at hs
 split at hs
 ·rw[List.mem_append]at hs
  rcases hs with hs|hs
  ·split at hs
   ·simp at hs;subst hs;exact hf
   simp at hs
  split at hs
  ·simp at hs;subst hs;exact hh
  simp at hs
 simp at hs
theorem B_(d:List UInt8)(host file:ByteArray):jZ (m_ d) (yX d) file.data.toList host.data.toList=jm (pE d host file):=by
 unfold jZ pE
 cases hF:m_ d<;>cases hH:yX d
 ·rfl
 ·simp only[jm,bu2,bz1,bA3,bw8]
  cases pieces host.data.toList<;>simp
 ·simp only[jm,bu2,bz1,bA3,br8]
  cases pieces file.data.toList<;>simp
 simp only[jm,bA3,bw1,bw8]
 cases pieces file.data.toList<;>cases pieces host.data.toList<;>simp
theorem bK4(l:List UInt8)(host file:ByteArray)(h:pieces l=none):nE l host.data.toList file.data.toList=1:=by rw[nE,h]
theorem zT(l:List UInt8)(host file:ByteArray)(ps:List Pc)(h:pieces l=some ps)(h1:has ps 52=true)(h2:kM (data ps 52)=false):nE l host.data.toList file.data.toList=2:=by
 rw[nE,h];simp[h1,h2]
theorem Ke(l:List UInt8)(host file:ByteArray)(ps:List Pc)(h:pieces l=some ps)(h1:has ps 52=true->kM (data ps 52)=true):
  nE l host.data.toList file.data.toList=(match jm (strsOf ps host file)with|none=>1|some m=>if has m 52 then 2 else 0):=by
 rw[nE,h];unfold strsOf
 cases hh:has ps 52
 ·simp only[hh,bu2,bz1,jm]
  rfl
 have h2:=h1 hh;simp only[hh,bA3,h2,B_]
 cases jm (pE (data ps 52) host file)<;>rfl
theorem KJ(l:List UInt8)(host file:ByteArray)(ps m:List Pc)(h:pieces l=some ps)(hm:jm (strsOf ps host file)=some m):
  oW l host.data.toList file.data.toList=gW [] (drop ps 52++m):=by
 rw[oW,h];unfold strsOf at hm
 cases hh:has ps 52
 ·rw[hh]at hm
  simp[jm]at hm;subst hm;simp only[hh,bu2,bz1,br8,Ow ps 52 hh]
 rw[hh]at hm;simp only[bA3]at hm;simp only[hh,bA3];rw[B_,hm]
theorem DR(aa:List ByteArray)(k:Nat)(h:k<aa.length)(ms qs:List Pc)(h0:jm aa=(jm (aa.drop k)).map fun x=>ms++x)(hp:pieces aa[k].data.toList=some qs):
  jm aa=(jm (aa.drop (k+1))).map fun x=>(ms++qs)++x:=by
 refine h0.trans ?_;rw[br9 h,jm,hp]
 cases jm (aa.drop (k+1))with
 |none=>rfl
 |some x=>simp
theorem IK(aa:List ByteArray)(k:Nat)(h:k<aa.length)(ms:List Pc)(h0:jm aa=(jm (aa.drop k)).map fun x=>ms++x)(hp:pieces aa[k].data.toList=none):jm aa=none:=by
 refine h0.trans ?_;rw[br9 h,jm,hp];rfl
def SA(w:fV)(a:Option Addr)(ss:List ByteArray):Prop:=∀i (h:i<ss.length),∃ad,a=some ad/\w.cell? (ad.add i)=some (.string ss[i])
theorem SA.below{w w':fV}{a:Option Addr}{ss:List ByteArray}{n:Nat}(h:SA w a ss)(hb:gm n w w')(hn:w.heap.size<=n):SA w' a ss:=fun i hi=>by
 obtain⟨ad,e,h0⟩:=h i hi;have l0:=CP h0;exact⟨ad,e,by rw[hb.cell (by omega)];exact h0⟩
theorem SA.own{w:fV}{b:Nat}{ao:Option Addr}{cp:Nat}{ss:List ByteArray}(h:w.ownsRow b 9 1 (.slice ao ss.length cp) ss.length (ss.map Value.string)):SA w ao ss:=fun i hi=>by
 obtain⟨g,rfl,_⟩:=jv h (by omega);exact⟨(a_ g 0),rfl,h.cells (g:=g) rfl i _ (by simp[hi])⟩
theorem At.own{w:fV}{b:Nat}{ao:Option Addr}{cp:Nat}{os:gU}(h:w.ownsRow b 138 2 (.slice ao os.length cp) os.length (gT os)):At w ao os:=by
 by_cases hn:0<os.length
 ·obtain⟨g,rfl,_⟩:=jv h hn
  exact At.bf1 (h.cells (g:=g) rfl)
 exact fun i hi=>by omega
theorem xI{w:fV}{b e z:Nat}{v:Value}{n:Nat}{xs:List Value}(h:w.ownsRow b e z v n xs):(v=.slice none 0 0/\n=0)∨∃g cp,v=.slice (some (a_ g 0)) n cp:=by
 rcases h.2 with h0|⟨g,cap,cur,rfl,_⟩
 ·exact bo1 h0
 exact bo3 ⟨g,cap,rfl⟩
end Dh
namespace Dh
open Bs
open Rd (iL iH jh gH jD iR)
theorem own_below{w w':fV}{b e z:Nat}{v:Value}{n:Nat}{xs:List Value}(h:w.ownsRow b e z v n xs)(hb:gm w.heap.size w w'):w'.ownsRow b e z v n xs:=
 h.kept (w':=w') (row:=none) ⟨hb.os,hb.tape,hb.output,hb.size,fun i hi _=>hb.block i hi⟩ (by cases h:v.ownBlock<;>simp)
def Jb(l:List UInt8)(host file:ByteArray)(B:Nat)(w:fV)(e:Ending)(w':fV):Prop:=
 w.grownBy w' (some B)/\(if nE l host.data.toList file.data.toList=0 then ∃v,e=.returned v/\w'.ownsRow w.heap.size 138 2 v (oW l host.data.toList file.data.toList).length (gT (oW l host.data.toList file.data.toList))else e=.panicked (iH (nE l host.data.toList file.data.toList)))
theorem uu{l:List UInt8}{host file:ByteArray}{B:Nat}{w w':fV}(k:Nat)(hk:nE l host.data.toList file.data.toList=k)(h0:k≠0)(hg:w.grownBy w' (some B)):Jb l host file B w (.panicked (iH k)) w':=by
 refine⟨hg,?_⟩;rw[hk,bo4 h0]
theorem PR(B:Nat)(l:List UInt8)(host file:ByteArray)(w:fV)(h:iL w B l)(hl:l.length<=1048576)(hh:host.size<=1048576)(hf:file.size<=1048576):
  f_ Vh 194 #[p_ B,.string host,.string file] w fun e w'=>Jb l host file B w e w':=by
 obtain⟨i1,hj,hy0,hy1,hy2⟩:=ol lM;have HR:=Fe h;have hB:=h.lt;clear h;go_enter func194,ntmps194;go_wp2_with fail;refine(Fa B l _ HR (by omega)).mono ?_;rintro e w1 ⟨hg1,hpost⟩
 cases hp:pieces l with
 |none=>
  rw[hp]at hpost;simp only at hpost;subst hpost;exact⟨rfl,uu 1 (bK4 l host file hp) (by omega) hg1⟩
 |some ps=>
  rw[hp]at hpost;obtain⟨v1,rfl,hown1⟩:=hpost;obtain⟨ao1,cp1,rfl⟩:=ib hown1;have hps:=iQ l.length l ps (bn7 _) hp;have HA1:=Fe (At.own hown1);have HG1:=Fe hg1;have hz1:=hg1.size;have HP:=Fe hp;have HAR:=Fe (Ki ao1 cp1 ps host file w1 HA1 (by omega));clear hg1 hp hown1;go_wp2_with fail;refine HAR.mono ?_;rintro e w2 ⟨hb2,harea⟩;have HB2:=Fe hb2;have hz2:=hb2.size
  by_cases hbad:has ps 52=true/\kM (data ps 52)=false
  ·rw[bp0 hbad.1,bo4 (by rw[hbad.2];decide)]at harea
   subst harea;exact⟨rfl,uu 2 (zT l host file ps HP hbad.1 hbad.2) (by omega) (jh HG1 hb2)⟩
  have hok:has ps 52=true->kM (data ps 52)=true:=fun h1=>by
   by_cases h2:kM (data ps 52)=true
   ·exact h2
   exact absurd ⟨h1,by simpa using h2⟩ hbad
  have hcom:∃a2 c2,e=.returned (.slice a2 (strsOf ps host file).length c2)/\SA w2 a2 (strsOf ps host file):=by
   unfold strsOf
   by_cases h1:has ps 52=true
   ·rw[bp0 h1,bp0 (hok h1)]at harea
    obtain⟨v,rfl,hv⟩:=harea;obtain⟨a2,c2,rfl⟩:=ib hv;rw[bp0 h1];exact⟨a2,c2,rfl,SA.own hv⟩
   rw[bo4 h1]at harea;rw[bo4 h1];exact⟨none,0,harea,fun i hi=>by simp at hi⟩
  obtain⟨a2,c2,rfl,hsa⟩:=hcom;have hsl:=OJ ps host file;have HSM:=Fe (Oi ps host file 1048576 hh hf);have HK:=Fe (Ke l host file ps HP hok);have HLL:=Fe (fun m=>KJ l host file ps m HP);obtain⟨ss,hss⟩:=ex_ (strsOf ps host file);rw[<-hss]at hsa hsl HSM HK HLL ⊢;have HSA:=Fe hsa;clear harea hb2 hbad hok hsa hss HAR;go_wp2;go_loopw [8,21] (fun v8 i wr=>∃(k:Nat) (ms:List Pc),k<=ss.length/\i=.int .i64 k/\heavy ms<=1048576*k/\Hid (jm ss=(jm (ss.drop k)).map fun x=>ms++x)/\Hid (wr.ownsRow w2.heap.size 138 2 v8 ms.length (gT ms))/\Hid (gm w2.heap.size w2 wr)) (fun _ i _=>ss.length-(intOf i).toNat)
  case atStart=>exact⟨0,[],bp3 _,rfl,by simp[heavy],Fe (by simp),Fe (bq3 _ _ _ _),Fe (bn9 _ _)⟩
  obtain⟨k,ms,hk,rfl,hmh,HM,HO,HW⟩:=hrel;rename fV=>wr;have hmsl:ms.length<=heavy ms:=by unfold heavy;omega
  have hwz:=HW.size
  by_cases hlt:k<ss.length
  ·obtain⟨ad,rfl,c0⟩:=HSA.below HW (bn7 _) k hlt
   have hsz:=HSM _ (bs4 hlt);obtain⟨s,hs⟩:=ex_ (ss[k]);rw[<-hs]at c0 hsz;have HMS:=Fe (DR ss k hlt ms);have HMN:=Fe (IK ss k hlt ms HM);rw[<-hs]at HMS HMN;have hRd:iL (wr.alloc (.cells #[.string s] 166)) wr.heap.size s.data.toList:=by
    have q:=bn3 wr (.cells #[.string s] 166);unfold iL;rw[Rd.mQ];exact q
   have HOP:=Fe (Fa wr.heap.size s.data.toList _ hRd (by rw[bp2];show s.size<=_;omega));have hhq:s.data.toList.length<=1048576:=by rw[bp2];exact hsz
   clear hRd hs;go_wp2_with fail;refine HOP.mono ?_;rintro e w3 ⟨hg3,hpost⟩;have hB3:gm w2.heap.size w2 w3:=(HW.alloc hwz _).grown hg3 (by simp;omega) (fun x hx=>by cases hx;omega);have hO3:=(HO.alloc (.cells #[.string s] 166)).kept hg3 (not_row (fun g hg e=>by cases e;have:=(HO.lt _ hg).2;omega))
   cases hp:pieces s.data.toList with
   |none=>
    rw[hp]at hpost;simp only at hpost;subst hpost;refine⟨rfl,uu 1 ?_ (by omega) (jh (jh HG1 HB2) hB3)⟩;rw[gB HK,HMN hp]
   |some qs=>
    rw[hp]at hpost;obtain⟨v3,rfl,hown3⟩:=hpost;have hqh:=iQ _ s.data.toList qs (bn7 _) hp;have hqs:qs.length<=heavy qs:=by unfold heavy;omega
    have HST:=Fe (HMS qs HM hp);have O3:=Fe hO3;have B3:=Fe hB3;have Q3:=Fe hown3;have hz3:=hB3.size;clear hg3 hO3 hB3 HM HMS HMN hp HOP
    rcases xI hown3 with⟨rfl,hq0⟩|⟨g3,cp3,rfl⟩
    ·have hqn:qs=[]:=bB1 hq0
     subst hqn;clear hown3;go_wp2_with (at_builtin;refine wpList_append_own_none rfl (.tmp 27) (.tmp 28) 200 rfl w2.heap.size 138 i1 2 bv1 hj _ _ _ rfl O3 rfl ?_);obtain⟨a8,c8,hv8⟩:=ib O3;subst hv8;go_wp2;go_roundw
     case rel=>exact⟨k+1,ms,by omega,by go_num,by omega,Fe (by have q:=gB HST;rwa [br8]at q),O3,B3⟩
     simp[intOf];omega
    have hcs:=hown3.cells (g:=g3) rfl;have HCS:=Fe hcs;have HLN:=Fe (kr qs);have hO3z:=(gB O3);clear hown3 hcs hO3z;go_wp2_with (at_builtin;refine br5 _ rfl (.tmp 27) (.tmp 28) 200 rfl w2.heap.size 138 i1 (.agg #[.int .u8 0,.string ⟨#[]⟩]) 2 24 bv1 hj hy0 hy1 hy2 rfl (by decide) _ _ _ rfl O3 (a_ g3 0) qs.length cp3 (gT qs) rfl HLN HCS (jM _) ?h63 ?hby ?hba ?_)
    case h63=>simp only[maxLen];omega
    case hby=>omega
    case hba=>omega
    intro v' w4 hown4 hg4 _;have hB4:gm w2.heap.size w2 w4:=B3.grown hg4 hz3 (fun x hx=>(O3.lt x hx).1);have hO4:w4.ownsRow w2.heap.size 138 2 v' (ms++qs).length (gT (ms++qs)):=by rw[bn6,iV];exact hown4
    obtain⟨a8,c8,hv8⟩:=ib hown4;have O4:=Fe hO4;have B4:=Fe hB4;clear hown4 hg4 hB4 hO4;subst hv8;go_wp2;go_roundw
    case rel=>exact⟨k+1,ms++qs,by omega,by go_num,by rw[mM];omega,HST,O4,B4⟩
    simp[intOf];omega
  have e0:k=ss.length:=by omega
  subst e0;have hMA:jm ss=some ms:=by
   refine HM.trans ?_;rw[bD9,jm];simp
  have HKK:=Fe (show nE l host.data.toList file.data.toList=if has ms 52 then 2 else 0 by rw[gB HK,hMA]);have HOL:=Fe (HLL ms hMA);obtain⟨a8,c8,hv8⟩:=ib HO;subst hv8;have hmh2:heavy ms<=2097152:=by omega
  have HD:=Fe (Jy a8 c8 ms wr (At.own HO) (by omega));clear HM hMA HK HLL HSM HSA hmh;go_wp2_with fail;refine on_ HD fun w5 hb5=>?_;have hB5:gm w2.heap.size w2 w5:=HW.trans (hb5.mono hwz);have hO5:=own_below HO hb5;have B5:=Fe hB5;have O5:=Fe hO5;have hz5:=hB5.size;clear hb5 hB5 hO5 HD HO
  by_cases hag:has ms 52=true
  ·rw[hag]
   go_wp2_with fail;refine(iR _ (by simp) _ _).mono ?_;rintro e w6 ⟨rfl,rfl⟩;refine⟨rfl,uu 2 ?_ (by omega) (jh (jh HG1 HB2) B5)⟩;rw[gB HKK,bp0 hag]
  have hag':has ms 52=false:=by simpa using hag
  have HK0:Hid (nE l host.data.toList file.data.toList=0):=Fe (by rw[gB HKK,bo4 hag]);rw[hag'];clear hag HKK;go_wp2_with fail;refine(jD _ (by simp) _ _).mono ?_;rintro e w6 ⟨rfl,rfl⟩;have HWO:=Fe (GA ao1 cp1 ps w6 ((HA1.below HB2 (bn7 _)).below B5 (bn7 _)) (by omega));go_wp2_with fail;refine HWO.mono ?_;rintro e w7 ⟨v7,rfl,hown7,hb7⟩;have hdh:=IJ ps 52;have hdl:(drop ps 52).length<=heavy (drop ps 52):=by unfold heavy;omega
  have hB7:gm w2.heap.size w2 w7:=B5.trans (hb7.mono hz5);have hO7:=own_below O5 hb7;have hz7:=hb7.size;have O7:=Fe hown7;have Q7:=Fe hO7;have B7:=Fe hB7;clear hown7 hb7 hO7 hB7 HWO O5 B5
  rcases xI Q7 with⟨hnil,hq0⟩|⟨g8,cp8,hsl8⟩
  ·have hmn:ms=[]:=bB1 hq0
   subst hmn
   cases hnil
   go_wp2_with (at_builtin;refine wpList_append_own_none rfl (.tmp 40) (.tmp 41) 200 rfl w6.heap.size 138 i1 2 bv1 hj _ _ _ rfl O7 rfl ?_);have hO8:w7.ownsRow w6.heap.size 138 2 v7 (drop ps 52++ []).length (gT (drop ps 52++ [])):=by rw[br8];exact O7
   obtain⟨X,hX⟩:=ex_ (drop ps 52++ []);have hXh:heavy X<=3145728:=by rw[hX,mM];simp only[heavy,bp6,bA2,List.sum_nil]at hdh hps ⊢;omega
   rw[<-hX]at hO8 HOL;clear hX;obtain⟨a10,c10,hv10⟩:=ib hO8;subst hv10;have HJN:=Fe (zq a10 c10 X w7 (At.own hO8) (by omega));go_wp2_with fail;refine HJN.mono ?_;rintro e w9 ⟨v9,rfl,hown9,hb9⟩;obtain⟨a11,c11,hv11⟩:=ib hown9;subst hv11;have O9:=Fe hown9;have B9:=Fe (B7.trans (hb9.mono (by omega)));have hz9:w.heap.size<=w7.heap.size:=by omega
   clear hown9 hb9;go_wp2;go_ret;refine⟨jh (jh HG1 HB2) B9,?_⟩;rw[gB HK0,bp0 rfl,gB HOL];exact⟨_,rfl,nT O9 hz9⟩
  cases hsl8
  have HCS:=Fe (Q7.cells (g:=g8) rfl);have HLN:=Fe (kr ms);go_wp2_with (at_builtin;refine br5 _ rfl (.tmp 40) (.tmp 41) 200 rfl w6.heap.size 138 i1 (.agg #[.int .u8 0,.string ⟨#[]⟩]) 2 24 bv1 hj hy0 hy1 hy2 rfl (by decide) _ _ _ rfl O7 (a_ g8 0) ms.length _ (gT ms) rfl HLN HCS (jM _) ?h63 ?hby ?hba ?_)
  case h63=>simp only[maxLen];omega
  case hby=>omega
  case hba=>omega
  intro v10 w8 hown8 hg8 _;have hB8:gm w2.heap.size w2 w8:=B7.grown hg8 (by omega) (fun x hx=>by have:=(O7.lt x hx).1;omega);have hO8:w8.ownsRow w6.heap.size 138 2 v10 (drop ps 52++ms).length (gT (drop ps 52++ms)):=by rw[bn6,iV];exact hown8
  have hz8:=hg8.size;have B8:=Fe hB8;clear hown8 hg8 hB8;obtain⟨X,hX⟩:=ex_ (drop ps 52++ms);have hXh:heavy X<=3145728:=by rw[hX,mM];omega
  rw[<-hX]at hO8 HOL;clear hX;obtain⟨a10,c10,hv10⟩:=ib hO8;subst hv10;have HJN:=Fe (zq a10 c10 X w8 (At.own hO8) (by omega));go_wp2_with fail;refine HJN.mono ?_;rintro e w9 ⟨v9,rfl,hown9,hb9⟩;obtain⟨a11,c11,hv11⟩:=ib hown9;subst hv11;have O9:=Fe hown9;have B9:=Fe (B8.trans (hb9.mono (by omega)));have hz9:w.heap.size<=w8.heap.size:=by omega
  clear hown9 hb9;go_wp2;go_ret;refine⟨jh (jh HG1 HB2) B9,?_⟩;rw[gB HK0,bp0 rfl,gB HOL];exact⟨_,rfl,nT O9 hz9⟩
end Dh
namespace Dh
open Bs Rd
open gP (other gN gD gM gI)
theorem oQ(n:Int)(w:fV):f_ Vh 193 #[.int .u8 n] w fun e w'=>e=.returned (.bool (n==1||n==2))/\w'=w:=by
 by_cases h1:n=1
 ·subst h1
  go_enter func193,ntmps193;go_wp2;go_ret;exact⟨rfl,rfl⟩
 have q:(n==1)=false:=by simpa using h1
 go_enter func193,ntmps193;go_wp2;go_ret;exact⟨by rw[q];rfl,rfl⟩
theorem F8(B:Nat)(l:List UInt8)(n:Nat)(w:fV)(h:iL w B l)(hn:n<=l.length)(hs:l.length<=maxLen):
  f_ Vh 147 #[p_ B,.int .i64 n] w fun e w'=>e=.returned (.string ⟨(l.take n).toArray⟩)/\iL w' B (l.drop n)/\w.grownBy w' (some B):=by
 refine(pu B l n w h hn hs).mono ?_;rintro e w1 ⟨rfl,rfl⟩;exact⟨rfl,h.set _,mH _⟩
theorem nX(B n:Nat)(s:ByteArray)(q l:List UInt8)(w:fV)(h:iL w B l)(hl:l=s.data.toList++q)(hn:s.size=n)(hs:l.length<=maxLen):
  f_ Vh 147 #[p_ B,.int .i64 n] w fun e w'=>e=.returned (.string s)/\iL w' B q/\w.grownBy w' (some B):=by
 have hz:s.data.toList.length=n:=by rw[bp2];exact hn
 have q1:l.take n=s.data.toList:=by rw[hl,<-hz,bD8]
 have q2:l.drop n=q:=by rw[hl,<-hz,List.drop_left]
 have t:=F8 B l n w h (by rw[hl,bn6];omega) hs;rw[q1,q2,mQ]at t;exact t
theorem AV(B:Nat)(a b:UInt8)(l:List UInt8)(w:fV)(h:iL w B (a::b::l))(hs:(a::b::l).length<=maxLen):
  f_ Vh 147 #[p_ B,.int .i64 2] w fun e w'=>e=.returned (.string ⟨#[a,b]⟩)/\iL w' B l/\w.grownBy w' (some B):=F8 B (a::b::l) 2 w h (by simp) hs
theorem lens{m m1 m2 m3 m4:List UInt8}{s1 sh sf sc:ByteArray}(e1:m=s1.data.toList++m1)(e2:m1=sh.data.toList++m2)(e3:m2=sf.data.toList++m3)(e4:m3=sc.data.toList++m4)(z1:s1.size=10)(z2:sh.size=64)(z3:sf.size=128)(z4:sc.size=4):
  m.length=206+m4.length/\m1.length=196+m4.length/\m2.length=132+m4.length/\m3.length=4+m4.length:=by
 have a1:m.length=s1.size+m1.length:=by rw[e1,bn6,bp2];rfl
 have a2:m1.length=sh.size+m2.length:=by rw[e2,bn6,bp2];rfl
 have a3:m2.length=sf.size+m3.length:=by rw[e3,bn6,bp2];rfl
 have a4:m3.length=sc.size+m4.length:=by rw[e4,bn6,bp2];rfl
 omega
theorem Mo(B:Nat)(a:UInt8)(l:List UInt8)(w:fV)(h:iL w B (a::l))(hs:(a::l).length<=maxLen)(ht:((a.toNat:Int)==1||(a.toNat:Int)==2)=true):
  f_ Vh 192 #[p_ B,.func (.func 109) #[] #[],.func (.func 193) #[] #[],.int .i64 2] w fun e w'=>e=.returned (.int .u8 a.toNat)/\iL w' B l/\w.grownBy w' (some B):=by
 have HN:=Fe (ky B a l w h hs);obtain⟨x,hx⟩:=ex_ ((a.toNat:Int));rw[<-hx]at HN ht ⊢;have HT:=Fe ht;have HI:=Fe (fun u=>oQ x u);clear h hx hs ht;go_enter func192,ntmps192;go_wp2_with fail;refine on_ HN ?_;rintro w1 ⟨h1,g1⟩;have H1:=Fe h1;have G1:=Fe g1;clear h1 g1;go_wp2_with fail;refine(HI _).mono ?_;rintro e w2 ⟨rfl,rfl⟩;rw[gB HT];go_wp2_with fail;refine(oo _ _).mono ?_;rintro _ w3 ⟨rfl,rfl⟩;go_wp2;go_ret;exact⟨rfl,H1,G1⟩
def Vv(l:List UInt8)(host file:ByteArray)(B:Nat)(w:fV)(val:Value->Value)(e:Ending)(w':fV):Prop:=
 w.grownBy w' (some B)/\(if nE l host.data.toList file.data.toList=0 then ∃ao cp,e=.returned (val (.slice ao (oW l host.data.toList file.data.toList).length cp))/\w'.ownsRow w.heap.size 138 2 (.slice ao (oW l host.data.toList file.data.toList).length cp) (oW l host.data.toList file.data.toList).length (gT (oW l host.data.toList file.data.toList))else e=.panicked (iH (nE l host.data.toList file.data.toList)))
theorem bN2{u:fV}{g:Nat}{t:TypeId}{b0 b1 b2 b3 b4 b5 b6 b7 b8 b9 b10 b11:Value}(h:u.heap[g]?=some (.cells #[b0,b1,b2,b3,b4,b5,b6,b7,b8,b9,b10,b11] t (0,0))):u.cell? (a_ g 0)=some b0/\u.cell? (a_ g 1)=some b1/\u.cell? (a_ g 2)=some b2/\u.cell? (a_ g 3)=some b3/\u.cell? (a_ g 4)=some b4/\u.cell? (a_ g 5)=some b5/\u.cell? (a_ g 6)=some b6/\u.cell? (a_ g 7)=some b7/\u.cell? (a_ g 8)=some b8/\u.cell? (a_ g 9)=some b9/\u.cell? (a_ g 10)=some b10/\u.cell? (a_ g 11)=some b11:=by
 have q:=fun j=>bn0 u g j _ _ _ h;exact⟨q 0,q 1,q 2,q 3,q 4,q 5,q 6,q 7,q 8,q 9,q 10,q 11⟩
theorem at0(B:Nat)(a0 a3 a4 a5 a6 a7 a8 a9 a10 a11 a12 a13 a14 a15 a16 a17 a18 a19 a20 a21 a22 a23 a24 a25 a26 a27 a28 a29 a30 a31 a32 a33:UInt8)(m m1 m2 m3 m4:List UInt8)(s1 sh sf sc:ByteArray)(w:fV)(h:iL w B (a0::1::6::a3::a4::a5::a6::a7::a8::a9::a10::a11::a12::a13::a14::a15::a16::a17::a18::a19::a20::a21::a22::a23::a24::a25::a26::a27::a28::a29::a30::a31::a32::a33::m))(hs:(a0::1::6::a3::a4::a5::a6::a7::a8::a9::a10::a11::a12::a13::a14::a15::a16::a17::a18::a19::a20::a21::a22::a23::a24::a25::a26::a27::a28::a29::a30::a31::a32::a33::m).length<=1048576)(e1:m=s1.data.toList++m1)(e2:m1=sh.data.toList++m2)(e3:m2=sf.data.toList++m3)(e4:m3=sc.data.toList++m4)(z1:s1.size=10)(z2:sh.size=64)(z3:sf.size=128)(z4:sc.size=4)(rp:Bool)(hop:((a0.toNat:Int)==1||(a0.toNat:Int)==2)=true)(hrp:((a0.toNat:Int)==2)=rp):
  f_ Vh 156 #[p_ B] w fun ee w'=>if sc.data.toList=[99,130,83,99]then Vv m4 sh sf B w (fun v=>.agg #[.bool rp,.int .u32 (16777216*(a4.toNat:Int)+65536*(a5.toNat:Int)+256*(a6.toNat:Int)+(a7.toNat:Int)),.int .u32 (16777216*(a12.toNat:Int)+65536*(a13.toNat:Int)+256*(a14.toNat:Int)+(a15.toNat:Int)),.int .u32 (16777216*(a16.toNat:Int)+65536*(a17.toNat:Int)+256*(a18.toNat:Int)+(a19.toNat:Int)),.int .u32 (16777216*(a20.toNat:Int)+65536*(a21.toNat:Int)+256*(a22.toNat:Int)+(a23.toNat:Int)),.int .u8 a28.toNat,.int .u8 a29.toNat,.int .u8 a30.toNat,.int .u8 a31.toNat,.int .u8 a32.toNat,.int .u8 a33.toNat,v]) ee w' else ee=.panicked (iH 2)/\w.grownBy w' (some B):=by
 have hB:=h.lt;have hne0:w.heap.size≠B:=by omega
 have ls:m.length=206+m4.length/\m1.length=196+m4.length/\m2.length=132+m4.length/\m3.length=4+m4.length:=lens e1 e2 e3 e4 z1 z2 z3 z4;obtain⟨l0,l1,l2,l3⟩:=ls;have hsm:m4.length<=1048400:=by simp only[bn5]at hs;omega
 have HN0:=Fe (show(240:Int)<=((a0::1::6::a3::a4::a5::a6::a7::a8::a9::a10::a11::a12::a13::a14::a15::a16::a17::a18::a19::a20::a21::a22::a23::a24::a25::a26::a27::a28::a29::a30::a31::a32::a33::m).length:Int)by simp only[bn5];omega);have H0:=Fe (h.alloc (.cells zA_ 132));have SS:=Fe (VS.start 132 zA_ h);clear h;have T1:=Fe (fun u hu=>Mo B a0 (1::6::a3::a4::a5::a6::a7::a8::a9::a10::a11::a12::a13::a14::a15::a16::a17::a18::a19::a20::a21::a22::a23::a24::a25::a26::a27::a28::a29::a30::a31::a32::a33::m) u hu (by simp only[bn5,maxLen];omega) hop);have T2:=Fe (fun u hu=>AV B 1 6 (a3::a4::a5::a6::a7::a8::a9::a10::a11::a12::a13::a14::a15::a16::a17::a18::a19::a20::a21::a22::a23::a24::a25::a26::a27::a28::a29::a30::a31::a32::a33::m) u hu (by simp only[bn5,maxLen];omega));have T3:=Fe (fun u hu=>ky B a3 (a4::a5::a6::a7::a8::a9::a10::a11::a12::a13::a14::a15::a16::a17::a18::a19::a20::a21::a22::a23::a24::a25::a26::a27::a28::a29::a30::a31::a32::a33::m) u hu (by simp only[bn5,maxLen];omega));have T4:=Fe (fun u hu=>qQ B a4 a5 a6 a7 (a8::a9::a10::a11::a12::a13::a14::a15::a16::a17::a18::a19::a20::a21::a22::a23::a24::a25::a26::a27::a28::a29::a30::a31::a32::a33::m) u hu (by simp only[bn5,maxLen];omega));have T5:=Fe (fun u hu=>qQ B a8 a9 a10 a11 (a12::a13::a14::a15::a16::a17::a18::a19::a20::a21::a22::a23::a24::a25::a26::a27::a28::a29::a30::a31::a32::a33::m) u hu (by simp only[bn5,maxLen];omega));have T6:=Fe (fun u hu=>jg B a12 a13 a14 a15 (a16::a17::a18::a19::a20::a21::a22::a23::a24::a25::a26::a27::a28::a29::a30::a31::a32::a33::m) u hu (by simp only[bn5,maxLen];omega));have T7:=Fe (fun u hu=>jg B a16 a17 a18 a19 (a20::a21::a22::a23::a24::a25::a26::a27::a28::a29::a30::a31::a32::a33::m) u hu (by simp only[bn5,maxLen];omega));have T8:=Fe (fun u hu=>jg B a20 a21 a22 a23 (a24::a25::a26::a27::a28::a29::a30::a31::a32::a33::m) u hu (by simp only[bn5,maxLen];omega));have T9:=Fe (fun u hu=>jg B a24 a25 a26 a27 (a28::a29::a30::a31::a32::a33::m) u hu (by simp only[bn5,maxLen];omega));have T10:=Fe (fun u hu=>tZ B a28 a29 a30 a31 a32 a33 (m) u hu (by simp only[bn5,maxLen];omega));have T11:=Fe (fun u hu=>nX B 10 s1 m1 m u hu e1 z1 (by simp only[maxLen];omega));have T12:=Fe (fun u hu=>nX B 64 sh m2 m1 u hu e2 z2 (by simp only[maxLen];omega));have T13:=Fe (fun u hu=>nX B 128 sf m3 m2 u hu e3 z3 (by simp only[maxLen];omega));have T14:=Fe (fun u hu=>nX B 4 sc m4 m3 u hu e4 z4 (by simp only[maxLen];omega));obtain⟨x4,hx4⟩:=ex_ (16777216*(a4.toNat:Int)+65536*(a5.toNat:Int)+256*(a6.toNat:Int)+(a7.toNat:Int));obtain⟨x12,hx12⟩:=ex_ (16777216*(a12.toNat:Int)+65536*(a13.toNat:Int)+256*(a14.toNat:Int)+(a15.toNat:Int));obtain⟨x16,hx16⟩:=ex_ (16777216*(a16.toNat:Int)+65536*(a17.toNat:Int)+256*(a18.toNat:Int)+(a19.toNat:Int));obtain⟨x20,hx20⟩:=ex_ (16777216*(a20.toNat:Int)+65536*(a21.toNat:Int)+256*(a22.toNat:Int)+(a23.toNat:Int));rw[<-hx4]at T4;have HX4:=Fe hx4;clear hx4;rw[<-hx12]at T6;have HX12:=Fe hx12;clear hx12;rw[<-hx16]at T7;have HX16:=Fe hx16;clear hx16;rw[<-hx20]at T8;have HX20:=Fe hx20;clear hx20;have hneV:w.heap.size+1≠B:=by omega
 have hlt0:w.heap.size<w.heap.size+1:=by omega
 have HZ2:=Fe z2;have HZ3:=Fe z3;clear e1 e2 e3 e4 z1 z2 z3 z4 l0 l1 l2 l3;clear hop;go_enter func156,ntmps156;go_wp2_with fail;refine on_ (kQ _ _ _ _ H0 HN0) fun wz hwz=>?_;rw[hwz];clear hwz wz;go_wp2_with fail;refine on_ (T1 _ SS.D8) ?_;rintro w2 ⟨k1,g1⟩;have SM:=Fe (SS.next k1 g1);have S2:=Fe (SM.sets [(0,.bool rp)] (cs':=(rA rp 0 0 0 0 0 0 0 0 0 0 none 0 0)) rfl);have x2_0:=gP.gD SM.var (j:=0) rfl;have f2:=SM.free.1;clear k1 g1 SM SS;go_wp2_with fail;refine on_ (T2 _ S2.D8) ?_;rintro w3 ⟨k1,g1⟩;have S3:=Fe (S2.next k1 g1);clear k1 g1 S2;go_wp2_with fail;refine on_ (jD _ (by simp) _ _) fun wz hwz=>?_;rw[hwz];clear hwz wz;clear x2_0 f2;go_wp2_with fail;refine on_ (T3 _ S3.D8) ?_;rintro w4 ⟨k1,g1⟩;have S4:=Fe (S3.next k1 g1);clear k1 g1 S3;go_wp2_with fail;refine on_ (T4 _ S4.D8) ?_;rintro w5 ⟨k1,g1⟩;have SM:=Fe (S4.next k1 g1);have S5:=Fe (SM.sets [(1,.int .u32 x4)] (cs':=(rA rp x4 0 0 0 0 0 0 0 0 0 none 0 0)) rfl);have x5_1:=gP.gD SM.var (j:=1) rfl;have f5:=SM.free.1;clear k1 g1 SM S4;go_wp2_with fail;refine on_ (T5 _ S5.D8) ?_;rintro w6 ⟨k1,g1⟩;have S6:=Fe (S5.next k1 g1);clear k1 g1 S5;clear x5_1 f5;go_wp2_with fail;refine on_ (T6 _ S6.D8) ?_;rintro w7 ⟨k1,g1⟩;have SM:=Fe (S6.next k1 g1);have S7:=Fe (SM.sets [(2,.int .u32 x12)] (cs':=(rA rp x4 x12 0 0 0 0 0 0 0 0 none 0 0)) rfl);have x7_2:=gP.gD SM.var (j:=2) rfl;have f7:=SM.free.1;clear k1 g1 SM S6;go_wp2_with fail;refine on_ (T7 _ S7.D8) ?_;rintro w8 ⟨k1,g1⟩;have SM:=Fe (S7.next k1 g1);have S8:=Fe (SM.sets [(3,.int .u32 x16)] (cs':=(rA rp x4 x12 x16 0 0 0 0 0 0 0 none 0 0)) rfl);clear x7_2 f7;have x8_3:=gP.gD SM.var (j:=3) rfl;have f8:=SM.free.1;clear k1 g1 SM S7;go_wp2_with fail;refine on_ (T8 _ S8.D8) ?_;rintro w9 ⟨k1,g1⟩;have SM:=Fe (S8.next k1 g1);have S9:=Fe (SM.sets [(4,.int .u32 x20)] (cs':=(rA rp x4 x12 x16 x20 0 0 0 0 0 0 none 0 0)) rfl);clear x8_3 f8;have x9_4:=gP.gD SM.var (j:=4) rfl;have f9:=SM.free.1;clear k1 g1 SM S8;go_wp2_with fail;refine on_ (T9 _ S9.D8) ?_;rintro w10 ⟨k1,g1⟩;have S10:=Fe (S9.next k1 g1);clear k1 g1 S9;clear x9_4 f9;go_wp2_with fail;refine on_ (T10 _ S10.D8) ?_;rintro w11 ⟨k1,g1⟩;have SM:=Fe (S10.next k1 g1);have S11:=Fe (SM.sets [(5,.int .u8 a28.toNat),(6,.int .u8 a29.toNat),(7,.int .u8 a30.toNat),(8,.int .u8 a31.toNat),(9,.int .u8 a32.toNat),(10,.int .u8 a33.toNat)] (cs':=(rA rp x4 x12 x16 x20 a28.toNat a29.toNat a30.toNat a31.toNat a32.toNat a33.toNat none 0 0)) rfl);have x11_5:=gP.gD SM.var (j:=5) rfl;have x11_6:=gP.gD SM.var (j:=6) rfl;have x11_7:=gP.gD SM.var (j:=7) rfl;have x11_8:=gP.gD SM.var (j:=8) rfl;have x11_9:=gP.gD SM.var (j:=9) rfl;have x11_10:=gP.gD SM.var (j:=10) rfl;have f11:=SM.free.1;clear k1 g1 SM S10;go_wp2_with fail;refine on_ (T11 _ S11.D8) ?_;rintro w12 ⟨k1,g1⟩;have S12:=Fe (S11.next k1 g1);clear k1 g1 S11;clear x11_5 x11_6 x11_7 x11_8 x11_9 x11_10 f11;go_wp2_with fail;refine on_ (T12 _ S12.D8) ?_;rintro w13 ⟨k1,g1⟩;have S13:=Fe (S12.next k1 g1);clear k1 g1 S12;go_wp2_with fail;refine on_ (T13 _ S13.D8) ?_;rintro w14 ⟨k1,g1⟩;have S14:=Fe (S13.next k1 g1);clear k1 g1 S13;go_wp2_with fail;refine on_ (T14 _ S14.D8) ?_;rintro w15 ⟨k1,g1⟩;have S15:=Fe (S14.next k1 g1);clear k1 g1 S14
 by_cases heq:sc.data.toList=[99,130,83,99]
 case neg=>
  go_wp2_with fail;refine on_ (iR _ (by have q:=heq;rw[<-bq0]at q;simpa using q) _ _) fun wz hwz=>?_;refine⟨rfl,?_⟩;show(if sc.data.toList=[99,130,83,99]then _ else _);rw[bo4 heq];exact⟨rfl,by rw[hwz];exact S15.grown⟩
 have HEQ:=Fe heq;clear heq;go_wp2_with fail;refine on_ (jD _ (by have q:=gB HEQ;rw[<-bq0]at q;simpa using q) _ _) fun wz hwz=>?_;rw[hwz];clear hwz wz;have HAL:=Fe (PR B m4 sh sf w15 S15.D8 (by omega) (by have:=gB HZ2;omega) (by have:=gB HZ3;omega));have hzn:w.heap.size+2<=w15.heap.size:=by have:=bo2 S15.var;omega
 clear hs;go_wp2_with fail;refine HAL.mono ?_;rintro ee wx ⟨gx,hpost⟩
 by_cases hk0:nE m4 sh.data.toList sf.data.toList=0
 ·rw[bp0 hk0]at hpost
  obtain⟨v,rfl,hown⟩:=hpost;obtain⟨ao,cp,hv⟩:=ib hown;have hr:=(gx.block _ (bo2 S15.res) (fun q=>hne0 (by simpa using q))).trans S15.res;have he:=(gx.block _ (bo2 S15.var) (fun q=>hneV (by simpa using q))).trans S15.var;obtain⟨c0,c1,c2,c3,c4,c5,c6,c7,c8,c9,c10,c11⟩:=bN2 he;have ff:=gM he;obtain⟨d0,d1,d2,d3,d4,d5,d6,d7,d8,d9,d10,d11⟩:=bN2 hr;have kd:=gM hr;have GX:=Fe (gH S15.grown gx);have OW:=Fe hown;have HK0:=Fe hk0;obtain⟨LN,hLN⟩:=ex_ ((oW m4 sh.data.toList sf.data.toList).length);rw[<-hLN]at hv;subst hv;have HLN:=Fe hLN;clear hown gx hr he hk0 hLN HAL;go_wp2;refine bq9 (v:=.agg (rA rp x4 x12 x16 x20 a28.toNat a29.toNat a30.toNat a31.toNat a32.toNat a33.toNat ao LN cp)) (by simp[results,results156,go_sem,d0,d1,d2,d3,d4,d5,d6,d7,d8,d9,d10,d11]) rfl ?_;refine⟨?_,?_⟩
  ·iterate 13 refine gN ?_ (by first|exact bn7 _|exact bB9 _) _
   exact GX
  rw[bp0 (gB HK0)];refine⟨ao,cp,?_,?_⟩
  ·rw[<-gB HLN,gB HX4,gB HX12,gB HX16,gB HX20]
  rw[<-gB HLN];refine nT (b:=w15.heap.size) ?_ (by omega);iterate 13 refine bs0 ?_ (by first|(show w.heap.size<_;omega)|(show w.heap.size+1<_;omega)) _
  have q:=gB OW;rw[<-gB HLN]at q;exact q
 rw[bo4 hk0]at hpost;subst hpost;refine⟨rfl,?_⟩;try (show(if sc.data.toList=[99,130,83,99]then _ else _);rw[bp0 (gB HEQ)])
 refine⟨gH S15.grown gx,?_⟩;rw[bo4 hk0]
section
variable(B:Nat) (a0 a3 a4 a5 a6 a7 a8 a9 a10 a11 a12 a13 a14 a15 a16 a17 a18 a19 a20 a21 a22 a23 a24 a25 a26 a27 a28 a29 a30 a31 a32 a33:UInt8) (m m1 m2 m3 m4:List UInt8) (s1 sh sf sc:ByteArray) (w:fV) (h:iL w B (a0::1::6::a3::a4::a5::a6::a7::a8::a9::a10::a11::a12::a13::a14::a15::a16::a17::a18::a19::a20::a21::a22::a23::a24::a25::a26::a27::a28::a29::a30::a31::a32::a33::m)) (hs:(a0::1::6::a3::a4::a5::a6::a7::a8::a9::a10::a11::a12::a13::a14::a15::a16::a17::a18::a19::a20::a21::a22::a23::a24::a25::a26::a27::a28::a29::a30::a31::a32::a33::m).length≤1048576) (e1:m=s1.data.toList++m1) (e2:m1=sh.data.toList++m2) (e3:m2=sf.data.toList++m3) (e4:m3=sc.data.toList++m4) (z1:s1.size=10) (z2:sh.size=64) (z3:sf.size=128) (z4:sc.size=4) (rp:Bool) (hop:((a0.toNat:Int)==1||(a0.toNat:Int)==2)=true) (hrp:((a0.toNat:Int)==2)=rp)
include h hs e1 e2 e3 e4 z1 z2 z3 z4 hop hrp
theorem Ni(heq:sc.data.toList=[99,130,83,99]):f_ Vh 156 #[p_ B] w fun ee w'=>Vv m4 sh sf B w (fun v=>.agg #[.bool rp,.int .u32 (16777216*(a4.toNat:Int)+65536*(a5.toNat:Int)+256*(a6.toNat:Int)+(a7.toNat:Int)),.int .u32 (16777216*(a12.toNat:Int)+65536*(a13.toNat:Int)+256*(a14.toNat:Int)+(a15.toNat:Int)),.int .u32 (16777216*(a16.toNat:Int)+65536*(a17.toNat:Int)+256*(a18.toNat:Int)+(a19.toNat:Int)),.int .u32 (16777216*(a20.toNat:Int)+65536*(a21.toNat:Int)+256*(a22.toNat:Int)+(a23.toNat:Int)),.int .u8 a28.toNat,.int .u8 a29.toNat,.int .u8 a30.toNat,.int .u8 a31.toNat,.int .u8 a32.toNat,.int .u8 a33.toNat,v]) ee w':=(at0 B a0 a3 a4 a5 a6 a7 a8 a9 a10 a11 a12 a13 a14 a15 a16 a17 a18 a19 a20 a21 a22 a23 a24 a25 a26 a27 a28 a29 a30 a31 a32 a33 m m1 m2 m3 m4 s1 sh sf sc w h hs e1 e2 e3 e4 z1 z2 z3 z4 rp hop hrp).mono fun _ _ q=>by rwa [bp0 heq]at q
end
end Dh
namespace Lp
open Bs Rd
open gP (jf kT blocks gD gM gI jk iG jE)
def IE(n:Nat)(xs:List Value)(w:fV)(mk:Option Addr->Nat->Value)(ee:Ending)(w':fV):Prop:=
 ∃sa sc,ee=.returned (mk sa sc)/\w'.ownsRow w.heap.size 138 2 (.slice sa n sc) n xs/\gm w.heap.size w w'
theorem je(s:ByteArray)(k:Int)(w:fV)
  (hR:∀u B,iL u B s.data.toList->(∀b o,b<w.heap.size->u.cell? (a_ b o)=w.cell? (a_ b o))->f_ Vh 156 #[p_ B] u fun ee w'=>ee=.panicked (iH k)/\u.grownBy w' (some B)):
  f_ Vh 155 #[.string s,.func (.func 156) #[] #[]] w fun ee w'=>ee=.returned (.tuple #[.agg zA_,.int .i64 k])/\gm w.heap.size w w':=by
 have hmf:=hmf_;have HR:=Fe hR;clear hR;go_enter_defers func155,ntmps155
 go_wp2_with fail;refine on_ (HR _ _ (iG _ _ s (by simp)) (fun b o hb=>b3_.cell (p:=(a_ b o)) hb)) fun w1 g1=>?_;obtain⟨hr,he⟩:=blocks g1 rfl;refine bt9 (f:=191) (args:=#[p_ (w.heap.size+1)]) (by simp) (by simp[go_sem]) ?_;refine(jf func191 (by kernel_rfl) (by kernel_rfl) (by kernel_rfl) (a_ (w.heap.size+1) 0) 0 k [] _ (bp1 he) (br2 he)).mono ?_;rintro e u' w'' ⟨rfl,rfl,rfl⟩;exact⟨_,aL results155 rfl rfl hr he (fun u hu=>bq4 u _ _ _ _ _ _ hu underlying132 rfl (by kernel_rfl)),rfl,(jk g1 b3_ (by omega)).setCell (by simp) _⟩
theorem nK(s:ByteArray)(a0:Bool)(a1 a2 a3 a4 a5 a6 a7 a8 a9 a10:Int)(sn:Nat)(xs:List Value)(w:fV)
  (hR:∀u B,iL u B s.data.toList->(∀b o,b<w.heap.size->u.cell? (a_ b o)=w.cell? (a_ b o))->f_ Vh 156 #[p_ B] u fun ee w'=>(∃sa sc,ee=.returned (.agg (rA a0 a1 a2 a3 a4 a5 a6 a7 a8 a9 a10 sa sn sc))/\w'.ownsRow u.heap.size 138 2 (.slice sa sn sc) sn xs)/\u.grownBy w' (some B)):
  f_ Vh 155 #[.string s,.func (.func 156) #[] #[]] w fun ee w'=>IE sn xs w (fun sa sc=>.tuple #[.agg (rA a0 a1 a2 a3 a4 a5 a6 a7 a8 a9 a10 sa sn sc),.int .i64 0]) ee w':=by
 have hmf:=hmf_;have HR:=Fe hR;clear hR;go_enter_defers func155,ntmps155
 go_wp2_with fail;refine(HR _ _ (iG _ _ s (by simp)) (fun b o hb=>b3_.cell (p:=(a_ b o)) hb)).mono ?_;rintro ee w1 ⟨⟨sa,sc,rfl,ho⟩,g1⟩;obtain⟨hr,he⟩:=blocks g1 rfl;have HB:=Fe (jk g1 b3_ (by omega));have hc:=fun cs=>bp1 ((bt0 w1 w.heap.size _ cs (by omega)).trans he);have hf:=fun cs=>br2 ((bt0 w1 w.heap.size _ cs (by omega)).trans he);go_wp2_with (refine bq2 rfl 132 (.tmp 4) (.tmp 11) rfl w.heap.size _ rfl rfl 132 _ hr (by kernel_rfl) (by kernel_rfl) (by kernel_rfl) ?_);refine bt9 (f:=191) (args:=#[p_ (w.heap.size+1)]) (by simp) (by simp[go_sem]) ?_;refine(kT func191 (by kernel_rfl) (by kernel_rfl) (by kernel_rfl) (a_ (w.heap.size+1) 0) _).mono ?_;rintro e u' w'' ⟨rfl,rfl,rfl⟩;exact⟨_,aQ results155 rfl rfl hr he (fun u hu=>bq4 u _ _ _ _ _ _ hu underlying132 rfl (by kernel_rfl)),sa,sc,rfl,Dh.nT (b:=w.heap.size+2) (bs0 (Jz ho (by simp;omega) (by simp) _) (by show w.heap.size+1<_;omega) _) (by omega),(aD HB (bn7 _) _).setCell (by simp) _⟩
theorem bf5(s:ByteArray)(a0:Bool)(a1 a2 a3 a4 a5 a6 a7 a8 a9 a10:Int)(sn:Nat)(xs:List Value)(w:fV)
  (hR:∀u:fV,f_ Vh 155 #[.string s,.func (.func 156) #[] #[]] u fun ee w'=>IE sn xs u (fun sa sc=>.tuple #[.agg (rA a0 a1 a2 a3 a4 a5 a6 a7 a8 a9 a10 sa sn sc),.int .i64 0]) ee w'):
  f_ Vh 122 #[.string s] w fun ee w'=>IE sn xs w (fun sa sc=>.tuple #[.agg (rA a0 a1 a2 a3 a4 a5 a6 a7 a8 a9 a10 sa sn sc),.int .i64 0]) ee w':=by
 have HR:=Fe hR;clear hR;go_enter func122,ntmps122;go_wp2_with fail;refine(HR _).mono ?_;rintro ee w1 ⟨sa,sc,rfl,ho,hb⟩;have hr:=(hb.block _ (by simp)).trans (bn3 w _);go_wp2_with (refine bq2 rfl 132 (.tmp 2) (.tmp 6) rfl w.heap.size _ rfl rfl 132 _ hr (by kernel_rfl) (by kernel_rfl) (by kernel_rfl) ?_);exact aC results122 rfl rfl rfl hr (fun u hu=>bq4 u _ _ _ _ _ _ hu underlying132 rfl (by kernel_rfl)) (fun q=>⟨sa,sc,rfl,Jz ho (by simp) (by simp) _,q⟩) b1_ hb (bn7 _)
theorem Yq(s:ByteArray)(a0:Bool)(a1 a2 a3 a4 a5 a6 a7 a8 a9 a10:Int)(sn:Nat)(xs:List Value)(w:fV)
  (hR:∀u:fV,f_ Vh 122 #[.string s] u fun ee w'=>IE sn xs u (fun sa sc=>.tuple #[.agg (rA a0 a1 a2 a3 a4 a5 a6 a7 a8 a9 a10 sa sn sc),.int .i64 0]) ee w'):
  f_ Vh 66 #[.string s] w fun ee w'=>IE sn xs w (fun sa sc=>.tuple #[.agg (rA a0 a1 a2 a3 a4 a5 a6 a7 a8 a9 a10 sa sn sc),.int .i64 0]) ee w':=by
 have HR:=Fe hR;clear hR;go_enter func66,ntmps66;go_wp2_with fail;refine(HR _).mono ?_;rintro ee w1 ⟨sa,sc,rfl,ho,hb⟩;have hr:=(hb.block _ (by simp)).trans (bn3 w _);go_wp2_with (refine bq2 rfl 132 (.tmp 2) (.tmp 6) rfl w.heap.size _ rfl rfl 132 _ hr (by kernel_rfl) (by kernel_rfl) (by kernel_rfl) ?_);exact aC results66 rfl rfl rfl hr (fun u hu=>bq4 u _ _ _ _ _ _ hu underlying132 rfl (by kernel_rfl)) (fun q=>⟨sa,sc,rfl,Jz ho (by simp) (by simp) _,q⟩) b1_ hb (bn7 _)
end Lp
namespace UI
open Bs Rd Lt Ut
open Ip (lS uX)
open Ud (kR)
theorem iD{w:fV}{b o:Nat}{v:Value}(h:w.cell? (a_ b o)=some v):b<w.heap.size:=by
 by_cases hlt:b<w.heap.size
 ·exact hlt
 have hn:w.heap[b]?=none:=by simp;omega
 simp[World.cell?,hn]at h
end UI
namespace Sp
open Bs Rd Lt Ut
open Ip (lS uX kG jY JP Ls)
open Ud (kR si tC Ff uG)
def be3(c n:Int):Int:=(if c<0 then-(c+1)else c)%n
theorem gy(c n:Int)(hn:0<n):0<=be3 c n/\be3 c n<n:=⟨Int.emod_nonneg _ (by omega),Int.emod_lt_of_pos _ hn⟩
theorem lY(c n:Int)(w:fV)(h0: -9223372036854775808<=c)(h1:c<=9223372036854775807)(hn:0<n)(hn1:n<=9223372036854775807):
  f_ Vh 8 #[.int .i64 c,.int .i64 n] w fun e w'=>e=.returned (.int .i64 (be3 c n))/\w'=w:=by
 have hn0:(n==0)=false:=by simp;omega
 by_cases hc:c<0
 ·obtain⟨d,hd⟩:∃d:Int,d= -(c+1):=⟨_,rfl⟩
  have hq1:IntKind.i64.wrap (c+1)=c+1:=by simp[IntKind.wrap,IntKind.bits,IntKind.signed];omega
  have hq2:IntKind.i64.wrap (-(c+1))=d:=by rw[hd];simp[IntKind.wrap,IntKind.bits,IntKind.signed];omega
  have hd0:0<=d:=by omega
  have e:be3 c n=d%n:=by unfold be3;rw[bp0 hc,hd]
  have hb:=gy c n hn;rw[e]at hb ⊢;have hq3:IntKind.i64.wrap (d%n)=d%n:=wrap_i64 _ hb.1 (by omega);have ht:d.tmod n=d%n:=bz4 hd0;clear e hd;go_enter func8,ntmps8;go_wp2;go_ret;exact⟨rfl,rfl⟩
 have e:be3 c n=c%n:=by unfold be3;rw[bo4 hc]
 have hb:=gy c n hn;rw[e]at hb ⊢;have hq3:IntKind.i64.wrap (c%n)=c%n:=wrap_i64 _ hb.1 (by omega);have hc0:0<=c:=by omega
 have ht:c.tmod n=c%n:=bz4 hc0;clear e;go_enter func8,ntmps8;go_wp2;go_ret;exact⟨rfl,rfl⟩
end Sp
end Go.Proofs.YtdgacidndknceaaGreatDoor
