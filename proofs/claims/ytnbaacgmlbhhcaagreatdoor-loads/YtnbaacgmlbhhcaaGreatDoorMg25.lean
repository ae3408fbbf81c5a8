import Derived.Test.YtnbaacgmlbhhcaaGreatDoorMg46
import Derived.Deep.OwnRows
import Derived.Deep.RegionHeld3
import Derived.Lib.Bytealg
import Derived.Lib.SlicesCompact
import Derived.Test.YtnbaacgmlbhhcaaGreatDoorShelf
set_option linter.all false
set_option maxHeartbeats 2000000
set_option maxRecDepth 10000
open Go.ChangeShapes Go.WideShapes Go.ChangeAt Go.RowKit
open Go renaming World → kV
open Go.Proofs.Tryz
namespace Go.Proofs.YtnbaacgmlbhhcaaGreatDoor
namespace Tf
def Gy(c:UInt8):Bool:=decide (33<=c.toNat/\c.toNat<=126)
def lL(l:XU):Bool:= !l.isEmpty && l.all Gy
def G_(c:UInt8):UInt8:=if 65<=c.toNat/\c.toNat<=90 then UInt8.ofNat (c.toNat+32)else c
def ny(l:XU):XU:=l.map G_
def pQ(l:XU):(ny l).length=l.length:=by simp[ny]
def Gc(c:UInt8):(G_ c).toNat=if 65<=c.toNat/\c.toNat<=90 then c.toNat+32 else c.toNat:=by
 unfold G_
 split
 ·rw[g_ (by show _<256;omega)]
 rfl
def Z6(c:UInt8):Gy (G_ c)=Gy c:=by
 unfold Gy;rw[Gc]
 split
 ·rw[decide_eq_decide];omega
 rfl
def UB(l:XU):lL (ny l)=lL l:=by
 unfold lL ny;rw[List.all_map];have:(Gy ∘ G_)=Gy:=funext fun c=>Z6 c;rw[this]
 cases l<;>rfl
abbrev Fd:=XU×XU
abbrev mW:=List Fd
def fd8(f:Fd):XU:=f.1++ [0]++(f.2++ [0])
def oI(fs:mW):XU:=fs.flatMap fd8
def F5(a:mW)(k:Nat)(h:k<a.length):oI (a.take (k+1))=oI (a.take k)++fd8 a[k]:=by
 rw[oI,aS h,dH];simp[oI]
def F8(a:mW)(k:Nat):(oI (a.take k)).length<=(oI a).length:=by
 have e:oI a=oI (a.take k)++oI (a.drop k):=by
  rw[oI,oI,oI,<-dH,dV]
 rw[e,au];omega
def mM(fs:mW):Nat:=fs.length+(fs.map fun f=>f.1.length+f.2.length).sum
def DW(a:mW):(oI a).length<=2*mM a:=by
 induction a with
 |nil=>simp[oI,mM]
 |cons f r ih=>
  simp only[oI,mM,fd8,bX,au,ax,bn,bW,iT]at ih ⊢;omega
def Nk(a:mW)(k:Nat)(h:k<a.length):mM (a.take (k+1))=mM (a.take k)+1+(a[k].1.length+a[k].2.length):=by
 simp only[mM,aS h,dz,jN,au,ax,bn,bW,fP,iT,List.sum_nil];omega
def LQ(a:mW)(k:Nat):mM (a.take k)+(a.length-k)<=mM a:=by
 have q:mM (a.take k++a.drop k)=mM (a.take k)+mM (a.drop k):=by
  simp only[mM,dz,jN,au];omega
 rw[dV]at q;have h:(a.drop k).length<=mM (a.drop k):=by unfold mM;omega
 rw[bz]at h;omega
def TV(a:mW)(k:Nat):mM (a.take k)<=mM a:=by
 have:=LQ a k;omega
def AB(a:mW)(k:Nat)(h:k<a.length):a[k].1.length+a[k].2.length<=mM a:=by
 have:=Nk a k h;have:=TV a (k+1);omega
def nA(fs:mW):List (XU):=fs.map Prod.fst
def oz(a:mW):(nA a).length=a.length:=by simp[nA]
def KQ(a:mW)(k:Nat):nA (a.take k)=(nA a).take k:=by simp[nA,List.map_take]
def PW(f:Fd):Bool:=lL f.1 && (ny f.1==f.1) && lL f.2
def rW:List (XU)->Bool
 |[]=>true
 |x::r=> !r.contains x && rW r
def qR(l:List (XU)):rW l=true↔l.Nodup:=by
 induction l with
 |nil=>simp[rW]
 |cons x r ih=>
  simp only[rW,bG,ih,fM];simp
def qF(fs:mW)(n:XU):Bool:=fs.any fun f=>f.1==n
def A8(b:mW)(n:XU):qF b n=true↔n ∈ nA b:=by
 simp only[qF,kz,nA,dL];constructor
 ·rintro ⟨f,a,h⟩;exact⟨f,a,by simpa using h⟩
 rintro ⟨f,a,h⟩;exact⟨f,a,by simpa using h⟩
def vI(fs:mW):Bool:=fs.all PW && rW (nA fs)
def FL{α:Type}(l:List α)(x:α):(l++ [x]).Nodup↔l.Nodup/\x ∉ l:=by
 rw[jX];constructor
 ·rintro ⟨c,_,g⟩;exact⟨c,fun j=>g x j x (by simp) rfl⟩
 rintro ⟨c,f⟩;exact⟨c,by simp,fun a i b d=>by simp at d;subst d;rintro rfl;exact f i⟩
def NM(f:mW)(k:Nat)(h:k<f.length):vI (f.take (k+1))=(vI (f.take k) && (PW f[k] && !qF (f.take k) f[k].1)):=by
 rw[jO];unfold vI;simp only[bG,qR,iP,<-jE,A8];rw[aS h];simp only[nA,dz,bW,fP,FL,iB,jJ,List.all_nil,Bool.and_true,bG];constructor
 ·rintro ⟨⟨a,b⟩,c,d⟩;exact⟨⟨a,c⟩,b,d⟩
 rintro ⟨⟨a,c⟩,b,d⟩;exact⟨⟨a,b⟩,c,d⟩
def OP{α:Type}{l:List α}(h:l.Nodup)(k:Nat):(l.take k).Nodup:=h.sublist (List.take_sublist k l)
def JF(b:mW)(k:Nat)(h:vI (b.take k)=false):vI b=false:=by
 rw[<-jE]at h ⊢;intro a;apply h;unfold vI at a ⊢;rw[bG,qR]at a ⊢;refine⟨?_,?_⟩
 ·rw[kC]at a ⊢
  exact fun f c=>a.1 f (List.mem_of_mem_take c)
 rw[KQ];exact OP a.2 k
def Ug(a b c:XU):decide (a<=b)=true->decide (b<=c)=true->decide (a<=c)=true:=by
 simp only[bT];exact List.le_trans
def Q0(a b:XU):(decide (a<=b)||decide (b<=a))=true:=by
 simp only[iL,bT];exact List.le_total a b
def AJ(a:List (XU))(h:a.Nodup):∀j,j<a.length->Lib.keeps a.toArray j=true:=by
 intro j c
 by_cases e:j=0
 ·simp[Lib.keeps,e]
 apply Lib.keeps_pos;have b:j-1<a.length:=by omega
 simp only[List.getElem!_toArray];rw[kR a j c,kR a (j-1) b];intro d;have q:=(fT.1 h) (j-1) j b c (by omega);exact q d.symm
def Gh{a:List (XU)}{j:Nat}(c:j<a.length)(d:Lib.keeps a.toArray j=false):(Lib.compact a).length<a.length:=by
 unfold Lib.compact Lib.compactUpTo;rw[eu];have b:((List.range a.length).filter (Lib.keeps a.toArray)).length<(List.range a.length).length:=by
  rw[List.length_filter_lt_length_iff_exists];exact⟨j,by simpa using c,by rw[d];simp⟩
 simpa using b
def Jy{c:List (XU)}(k:c.Pairwise (fun a b=>a<=b))(n:∀j,j<c.length->Lib.keeps c.toArray j=true):c.Nodup:=by
 rw[List.Nodup,fT];intro i j g m M e;have d:i+1<c.length:=by omega
 have E:=n (i+1) d;have I:c[i]<=c[i+1]:=(fT.1 k) i (i+1) g d (by omega);have A:c[i+1]<=c[j]:=by
  by_cases l:i+1=j
  ·subst l;exact List.le_refl _
  exact(fT.1 k) (i+1) j d m (by omega)
 rw[<-e]at A;have J:c[i+1]=c[i]:=List.le_antisymm A I;simp only[Lib.keeps,bT]at E
 rcases E with f|f
 ·omega
 apply f;simp only[List.getElem!_toArray,Nat.add_sub_cancel];rw[kR c (i+1) d,kR c i g];exact J
def yJ(l:List (XU)):List (XU):=l.mergeSort fun x y=>decide (x<=y)
def JY(l:List (XU)):(yJ l).length=l.length:=(List.mergeSort_perm l _).length_eq
def Jk(l:List (XU)):decide ((Lib.compact (yJ l)).length=l.length)=rW l:=by
 have c:(yJ l).Perm l:=List.mergeSort_perm l _;have g:(yJ l).Pairwise (fun a b=>a<=b):=by
  have:=List.pairwise_mergeSort Ug Q0 l;exact this.imp (fun h=>by simpa using h)
 have f:(yJ l).length=l.length:=c.length_eq;rw[jO,bT,qR];constructor
 ·intro h
  apply c.nodup_iff.1;apply Jy g;intro j d
  cases hk:Lib.keeps (yJ l).toArray j with
  |true=>rfl
  |false=>have:=Gh d hk;omega
 intro h;rw[Lib.compact_all _ (AJ _ (c.nodup_iff.2 h)),f]
def cut:XU->Option (XU×XU)
 |[]=>none
 |c::r=>if c=0 then some ([],r)else match cut r with
  |none=>none
  |some (a,b)=>some (c::a,b)
def F4{l a b:XU}(h:cut l=some (a,b)):l=a++0::b/\(0:UInt8) ∉ a:=by
 induction l generalizing a b with
 |nil=>simp[cut]at h
 |cons c r ih=>
  rw[cut]at h
  by_cases e:c=0
  ·rw[aB e]at h
   simp at h;obtain⟨rfl,rfl⟩:=h;simp[e]
  rw[az e]at h
  cases hc:cut r with
  |none=>rw[hc]at h;simp at h
  |some p=>
   obtain⟨a',g⟩:=p;rw[hc]at h;simp at h;obtain⟨rfl,rfl⟩:=h;obtain⟨d,f⟩:=ih hc;refine⟨by rw[d];simp,?_⟩;simp only[d_,not_or];exact⟨fun h=>e h.symm,f⟩
def al3(a b:XU)(h:(0:UInt8) ∉ a):cut (a++0::b)=some (a,b):=by
 induction a with
 |nil=>simp[cut]
 |cons c r ih=>
  simp only[d_,not_or]at h;rw[iY,cut,az (fun e=>h.1 e.symm),ih h.2]
def VL{l:XU}:cut l=none↔(0:UInt8) ∉ l:=by
 constructor
 ·intro h
  induction l with
  |nil=>simp
  |cons c r ih=>
   rw[cut]at h
   by_cases e:c=0
   ·rw[aB e]at h;simp at h
   rw[az e]at h
   cases hc:cut r with
   |none=>
    simp only[d_,not_or];exact⟨fun h=>e h.symm,ih hc⟩
   |some p=>rw[hc]at h;simp at h
 intro h
 cases hc:cut l with
 |none=>rfl
 |some p=>
  obtain⟨d,_⟩:=F4 (a:=p.1) (b:=p.2) hc;exact absurd (by rw[d];simp) h
def nR{l a b:XU}(h:cut l=some (a,b)):l.length=a.length+1+b.length:=by
 obtain⟨c,_⟩:=F4 h;rw[c];simp;omega
def nM(l:XU):Option mW:=
 if l=[]then some []else
 match h:cut l with
 |none=>none
 |some (n,r)=>if lL n then
   (match h2:cut r with
   |none=>none
   |some (v,r2)=>if lL v then(match nM r2 with
     |none=>none
     |some fs=>some ((ny n,v)::fs))else none)
  else none
termination_by l.length
decreasing_by
 have h1:=nR h
 have h2:=nR h2
 omega
def yR:nM []=some []:=by rw[nM,aB rfl]
def wV{l:XU}(a:l≠ [])(h:cut l=none):nM l=none:=by
 rw[nM,az a]
 split
 ·rfl
 rename_i n r h';rw[h]at h';simp at h'
def ul{l n r:XU}(b:l≠ [])(h:cut l=some (n,r)):nM l=if lL n then(match cut r with
  |none=>none
  |some (v,r2)=>if lL v then(match nM r2 with
   |none=>none
   |some fs=>some ((ny n,v)::fs))else none)else none:=by
 rw[nM,az b]
 split
 ·rename_i h';rw[h]at h';simp at h'
 rename_i n' r' h'
 rw[h]at h';simp at h';obtain⟨rfl,rfl⟩:=h'
 by_cases a:lL n=true
 ·rw[aB a,aB a]
  split
  ·rename_i h2;rw[h2]
  rename_i h2;rw[h2]
 rw[az a,az a]
def BQ{l n r:XU}(a:l≠ [])(h:cut l=some (n,r))(b:lL n=false):nM l=none:=by
 rw[ul a h,b];rfl
def xg{l n r:XU}(a:l≠ [])(h:cut l=some (n,r))(b:cut r=none):nM l=none:=by
 rw[ul a h,b];split<;>rfl
def BF{l n r v d:XU}(a:l≠ [])(h:cut l=some (n,r))(b:cut r=some (v,d))(c:lL v=false):nM l=none:=by
 rw[ul a h,b];simp only[c]
 split<;>rfl
def BK{l n r v a:XU}(b:l≠ [])(h:cut l=some (n,r))(c:cut r=some (v,a))(d:lL n=true)(f:lL v=true):nM l=match nM a with
  |none=>none
  |some fs=>some ((ny n,v)::fs):=by
 rw[ul b h,c,aB d];simp only[f,bI]
def nX(l:XU):List (XU):=
 match h:cut l with
 |none=> []
 |some (a,b)=>a::nX b
termination_by l.length
decreasing_by
 have:=nR h
 omega
def oq(l:XU):Bool:=
 match h:cut l with
 |none=>l.isEmpty
 |some (a,b)=>oq b
termination_by l.length
decreasing_by
 have:=nR h
 omega
def pI{l:XU}(h:cut l=none):nX l=[]:=by
 rw[nX];split
 ·rfl
 rename_i h';rw[h]at h';simp at h'
def pJ{l a b:XU}(h:cut l=some (a,b)):nX l=a::nX b:=by
 rw[nX];split
 ·rename_i h';rw[h]at h';simp at h'
 rename_i h';rw[h]at h';simp at h';obtain⟨rfl,rfl⟩:=h';rfl
def wJ{l:XU}(h:cut l=none):oq l=l.isEmpty:=by
 rw[oq];split
 ·rfl
 rename_i h';rw[h]at h';simp at h'
def rX{l a b:XU}(h:cut l=some (a,b)):oq l=oq b:=by
 rw[oq];split
 ·rename_i h';rw[h]at h';simp at h'
 rename_i h';rw[h]at h';simp at h';obtain⟨rfl,rfl⟩:=h';rfl
def oZ:List (XU)->Option mW
 |[]=>some []
 |[_]=>none
 |n::v::r=>if lL n && lL v then(match oZ r with
  |none=>none
  |some fs=>some ((ny n,v)::fs))else none
theorem z_(l:XU):nM l=if oq l then oZ (nX l)else none:=by
 by_cases a:l=[]
 ·subst a
  rw[yR,wJ rfl,pI rfl];rfl
 cases h:cut l with
 |none=>
  rw[wV a h,wJ h];have:l.isEmpty=false:=by cases l with|nil=>exact absurd rfl a|cons=>rfl
  rw[this];rfl
 |some p=>
  obtain⟨n,r⟩:=p;rw[rX h,pJ h]
  cases h2:cut r with
  |none=>
   rw[xg a h h2,pI h2]
   split<;>rfl
  |some p2=>
   obtain⟨v,d⟩:=p2;have g:=nR h;have i:=nR h2;have f:=z_ d;rw[rX h2,pJ h2,ul a h,h2];simp only[oZ,f]
   by_cases e:oq d=true
   ·simp only[e,bI]
    by_cases b:lL n=true
    ·by_cases c:lL v=true
     ·simp[b,c]
     simp[b,c]
    simp[b]
   simp only[e]
   split
   ·split<;>simp
   rfl
termination_by l.length
decreasing_by omega
structure sG where
 op:Nat
 block:Nat
 text:XU
 data:XU
 fs:mW
def sG.zero:sG:=⟨0,0,[],[],[]⟩
def pO:XU:=[111,99,116,101,116]
def Bq(n:Nat):XU:=[UInt8.ofNat (n/256),UInt8.ofNat n]
def DK(m:sG):Bool:=
 if m.op=1 then lL m.text && vI m.fs else if m.op=6 then vI m.fs else if m.op=5 then !m.text.contains 0 else(m.op==3||m.op==4)
def pg(m:sG):XU:=
 Bq m.op++(if m.op=1 then m.text++ [0]++(pO++ [0])++oI m.fs else if m.op=6 then oI m.fs else if m.op=3 then Bq m.block++m.data else if m.op=5 then Bq m.block++(m.text++ [0])else Bq m.block)
def Qh(m:sG):Nat:=
 if DK m=false then 2 else if m.op=3/\1024<m.data.length then 7 else if 1472<(pg m).length then 7 else 0
def GD(m:sG):XU:=if Qh m=0 then pg m else []
def vg(l:XU):Option mW:=match nM l with
 |none=>none
 |some fs=>if rW (nA fs)then some fs else none
def sI(l:XU):Nat×sG:=
 if l.length<2 then(1,.zero)else
 let op:=(l.getD 0 0).toNat*256+(l.getD 1 0).toNat
 let r:=l.drop 2
 if op=1 then
  match cut r with
  |none=>(2,.zero)
  |some (n,r1)=>if lL n=false then(2,.zero)else match cut r1 with
   |none=>(2,.zero)
   |some (m,r2)=>if ny m≠pO then(2,.zero)else match vg r2 with
    |none=>(2,.zero)
    |some fs=>(0,⟨op,0,n,[],fs⟩)
 else if op=6 then match vg r with
  |none=>(2,.zero)
  |some fs=>(0,⟨op,0,[],[],fs⟩)
 else if op=3∨op=4∨op=5 then
  if r.length<2 then(1,.zero)else
  let bl:=(r.getD 0 0).toNat*256+(r.getD 1 0).toNat
  let q:=r.drop 2
  if op=3 then(if 1024<q.length then(7,.zero)else(0,⟨op,bl,[],q,[]⟩))
  else if op=4 then(if q=[]then(0,⟨op,bl,[],[],[]⟩)else(2,.zero))
  else match cut q with
   |none=>(2,.zero)
   |some (t,q2)=>if q2=[]then(0,⟨op,bl,t,[],[]⟩)else(2,.zero)
 else(2,.zero)
end Tf
namespace Tf
open Bs
def lF(l:XU):(⟨l.toArray⟩:XB).size=l.length:=by show l.toArray.size=_;simp
def WE{s:XB}{l:XU}(h:s.data.toList=l):s=⟨l.toArray⟩:=by rw[<-h]
def uR(s:XB)(l:XU)(E:s.data.toList=l)(k:Nat)(b:k<l.length)(u:kV):(Instr.index 9 (.string s) (E4 (k:Int))).run prog u=.ok (E8 (l.getD k 0).toNat) u:=by
 have f:s.size=l.length:=by rw[<-E,aM];rfl
 have c:(k:Int)<(s.size:Int):=by omega
 have A:k<s.size:=by omega
 have d:s[k]=l.getD k 0:=by
  have a:k<s.data.size:=A;have q:s.data[k]?=l[k]?:=by rw[<-E,bP]
  rw[bM a,aN b]at q;rw[aL,aN b];exact aV q
 simp[Instr.index,gB dB,asIntOf,c,A,go_sem,d]
def Bo{l:XU}{k:Nat}(h:k<l.length)(b:(l.take k).all Gy=true)(a:Gy (l.getD k 0)=true):(l.take (k+1)).all Gy=true:=by
 rw[aS h,iB,b];rw[aL,aN h]at a;simpa using a
def Eo{l:XU}{k:Nat}(h:k<l.length)(a:Gy (l.getD k 0)=false):lL l=false:=by
 rw[aL,aN h]at a;unfold lL;have:l.all Gy=false:=by
  rw[<-jE,kC];intro b;have:=b l[k] (dw h);simp at a;rw[a]at this;cases this
 rw[this,Bool.and_false]
def Ut(s:XB)(l:XU)(A:s.data.toList=l):s.toList.isEmpty=l.isEmpty:=by rw[bi,A]
def vz(s:XB)(l:XU)(w:kV)(E:s.data.toList=l)(D:l.length<=9223372036854775807):
  C_ 76 #[.string s] w (.bool (lL l)) fun w'=>w'=w:=by
 have f:s.size=l.length:=by rw[<-E,aM];rfl
 have M:=Ut s l E;have J:=ll (fun k p u=>uR s l E k p u);have v:=ll f;clear E f;go_enter func76,ntmps76;go_wp2;go_loop [6] (fun i=>∃k:Nat,k<=l.length/\i=E4 k/\Hid ((l.take k).all Gy=true)) (fun i=>l.length-(intOf i).toNat)
 case atStart=>exact⟨0,aR _,rfl,ll rfl⟩
 obtain⟨k,p,rfl,m⟩:=hrel;have f:=lq v
 by_cases d:k<l.length
 ·have t:=J k d
  have I:(k:Int)<(s.size:Int):=by omega
  have r:=(l.getD k 0).toNat_lt;have A:Gy (l.getD k 0)=decide (33<=(l.getD k 0).toNat/\(l.getD k 0).toNat<=126):=rfl;have HBAD:=ll (fun h=>Eo (l:=l) d h);have a:=ll (fun h=>Bo (l:=l) d m h);obtain⟨c,o⟩:=ex_ (l.getD k 0);rw[<-o]at t r A HBAD a;obtain⟨y,g⟩:∃y:Nat,y=c.toNat:=⟨_,rfl⟩;rw[<-g]at t r A;have j:=ll A;clear o A f
  by_cases C:y<33
  ·have z:(y:Int)<33:=by omega
   have b:Hid (lL l=false):=ll (HBAD (by rw[lq j,dA];omega));clear HBAD a g;go_wp2;go_ret;exact⟨by rw[lq b];rfl,rfl⟩
  have z: ¬(y:Int)<33:=by omega
  by_cases n:126<y
  ·have B:(126:Int)<(y:Int):=by omega
   have b:Hid (lL l=false):=ll (HBAD (by rw[lq j,dA];omega));clear HBAD a g;go_wp2;go_ret;exact⟨by rw[lq b];rfl,rfl⟩
  have B: ¬(126:Int)<(y:Int):=by omega
  have b:Hid ((l.take (k+1)).all Gy=true):=ll (a (by rw[lq j,bT];omega));clear HBAD a g;go_wp2;go_round
  case rel=>exact⟨k+1,by omega,by go_num,b⟩
  simp[intOf];omega
 have I: ¬(k:Int)<(s.size:Int):=by omega
 have b:Hid (lL l= !l.isEmpty):=ll (by
  have q:=lq m
  rw[bF (by omega)]at q
  unfold lL;rw[q,Bool.and_true])
 clear f;go_wp2;go_ret;exact⟨by rw[lq b];rfl,rfl⟩
def Bt(w:kV)(g:Nat)(L:XU):Prop:=
 ∃cur t fz,w.heap[g]?=some (.cells cur t fz)/\(L.length<=fz.1∨fz.2=0)/\∀j (h:j<L.length),cur[j]?=some (E8 L[j].toNat)
def Bt.cell{w:kV}{g:Nat}{L:XU}(h:Bt w g L)(j:Nat)(a:j<L.length):w.cell? (a_ g j)=some (E8 (L.getD j 0).toNat):=by
 obtain⟨b,t,f,d,_,c⟩:=h;rw[af w g j _ _ _ d,c j a,aL,aN a];rfl
def Bt.free{w:kV}{g:Nat}{L:XU}(h:Bt w g L)(j:Nat)(k:j<L.length):w.frozen? (a_ g j)=false:=by
 obtain⟨a,t,b,d,c,f⟩:=h;obtain⟨l,i⟩:=b;simp only[World.frozen?,d,fZ,dA];simp only at c;omega
def Bt.set{w:kV}{g:Nat}{L:XU}(h:Bt w g L)(j:Nat)(l:j<L.length)(x:UInt8):Bt (w.setCell (a_ g j) (E8 x.toNat)) g (L.set j x):=by
 obtain⟨a,t,b,d,k,c⟩:=h;refine⟨a.setIfInBounds j (E8 x.toNat),t,b,?_,by rw[cz];exact k,fun i f=> ?_⟩
 ·rw[bS w g j a t b _ d];exact cO w g a _ t _ d
 rw[cz]at f;have m:j<a.size:=(dU.1 (c j l)).1;rw[dX]
 by_cases e:j=i
 ·subst e
  rw[aB rfl,aB m,List.getElem_set_self]
 rw[az e,c i f,List.getElem_set_ne e]
def Bt.new(w:kV)(s:XB)(l:XU)(A:s.data.toList=l):Bt (w.drew.alloc (.cells (bytesRow s (grownCap w s.size 0 5)) 5 ((bytesRow s (grownCap w s.size 0 5)).size,(bytesRow s (grownCap w s.size 0 5)).size+1))) w.heap.size l:=by
 have c:s.size=l.length:=by rw[<-A,aM];rfl
 have I:=grownCap_ge w s.size 0 5;have E:(bytesRow s (grownCap w s.size 0 5)).size=grownCap w s.size 0 5:=by
  simp only[bytesRow,Array.size_append,Array.size_map,Array.size_replicate];have:s.data.size=s.size:=rfl;omega
 refine⟨_,_,_,ah w.drew _,aG ?_,fun j b=> ?_⟩
 ·show l.length<=(bytesRow s (grownCap w s.size 0 5)).size
  rw[E];omega
 have a:j<s.data.size:=by show j<s.size;omega
 rw[bytesRow,Array.getElem?_append_left (by rw[Array.size_map];exact a),Array.getElem?_map,bM a];subst A;rfl
def uA(l:XU)(k:Nat):XU:=ny (l.take k)++l.drop k
def uN(l:XU)(k:Nat):(uA l k).length=l.length:=by
 unfold uA;rw[au,pQ,aX,bz];omega
def He(l:XU)(k:Nat)(h:k<l.length):(uA l k).getD k 0=l.getD k 0:=by
 unfold uA;rw[aL,bR (by rw[pQ,aX];omega),pQ,aX,jg (by omega),Nat.sub_self,jQ,je,aL]
def Fx(l:XU)(k:Nat)(h:k<l.length):(uA l k).set k (G_ (l.getD k 0))=uA l (k+1):=by
 unfold uA;rw[List.set_append_right _ _ (by rw[pQ,aX];omega),pQ,aX,jg (by omega),Nat.sub_self,aS h,bV h,aA];rw[aL,aN h,ny,ny,dz,bY];rfl
def NW(l:XU)(k:Nat)(h:k<l.length)(a:G_ (l.getD k 0)=l.getD k 0):uA l k=uA l (k+1):=by
 have q:=Fx l k h;rw[a]at q;rw[<-q];have b:k<(uA l k).length:=by rw[uN];exact h
 have e:=He l k h;rw[aL,aN b]at e;simp only[eD]at e;rw[<-e,List.set_getElem_self]
def N8(l:XU):uA l 0=l:=by simp[uA,ny]
def Sk(l:XU):uA l l.length=ny l:=by simp[uA]
def uY(s:XB)(l:XU)(w:kV)(E:s.data.toList=l)(R:l.length<=1099511627776):
  C_ 296 #[.string s] w (.string ⟨(ny l).toArray⟩) (y_ w):=by
 have z:s.size=l.length:=by rw[<-E,aM];rfl
 have W:=fun(w:kV)=>run_bytes_of_string (P:=prog) w 9 55 5 s dB bQ dW;have f:=ll (Bt.new w s l E);have H:=ll z;clear E;go_enter func296,ntmps296;rw[z]at f;go_wp2;go_loopw [10] (fun i wr=>∃k:Nat,k<=l.length/\i=E4 k/\Hid (Bt wr w.heap.size (uA l k))/\Hid (y_ w wr)) (fun i _=>l.length-(intOf i).toNat)
 case atStart=>exact⟨0,aR _,rfl,ll (by rw[N8];exact f),ll (b1_.drew)⟩
 obtain⟨k,N,rfl,d,g⟩:=hrel;rename kV=>wr
 by_cases a:k<l.length
 ·have m:=d.cell k (by rw[uN];exact a)
  have L:=d.free k (by rw[uN];exact a);rw[He l k a]at m;have C:=ll (fun x=>d.set k (by rw[uN];exact a) x);have M:(k:Int)<(l.length:Int):=by omega
  have q:=ll (Fx l k a);have p:=ll (NW l k a);have A:=Gc (l.getD k 0);obtain⟨c,t⟩:=ex_ (l.getD k 0);rw[<-t]at m q p A;have G:=c.toNat_lt;obtain⟨y,n⟩:∃y:Nat,y=c.toNat:=⟨_,rfl⟩;rw[<-n]at m G A;have I:=ll A;have D:=ll n;clear t n A
  by_cases b:65<=y/\y<=90
  ·obtain⟨r,F⟩:=b
   have J:(65:Int)<=(y:Int):=by omega
   have O:(y:Int)<=90:=by omega
   have T:IntKind.u8.wrap ((y:Int)-65)=(y:Int)-65:=by rw[gQ];omega
   have V:IntKind.u8.wrap ((y:Int)-65+97)=((G_ c).toNat:Int):=by rw[gQ,lq I,aB ⟨r,F⟩];omega
   go_wp2;go_roundw
   case rel=>exact⟨k+1,by omega,by go_num,ll (by rw[<-lq q];exact C _),ll (g.setCell (ae _) _)⟩
   simp[intOf];omega
  have o:Hid (uA l k=uA l (k+1)):=ll (p (by
   apply dS.1
   rw[lq I,az b,lq D]))
  by_cases r:65<=y
  ·have J:(65:Int)<=(y:Int):=by omega
   have O: ¬(y:Int)<=90:=by omega
   clear b;go_wp2;go_roundw
   case rel=>exact⟨k+1,by omega,by go_num,ll (by rw[<-lq o];exact d),g⟩
   simp[intOf];omega
  have J: ¬(65:Int)<=(y:Int):=by omega
  clear b;go_wp2;go_roundw
  case rel=>exact⟨k+1,by omega,by go_num,ll (by rw[<-lq o];exact d),g⟩
  simp[intOf];omega
 have e:k=l.length:=by omega
 have B:Hid (Bt wr w.heap.size (ny l)):=ll (by rw[<-Sk,<-e];exact d);have M: ¬(k:Int)<(l.length:Int):=by omega
 have U:=dE (P:=prog) wr 55 9 5 (n_ w 0) (grownCap w l.length 0 5) (ny l) bQ dW dB (fun j v=>by
  rw[nz,B.cell j v,aL,aN v];rfl)
 rw[pQ]at U;clear e W;go_wp2;go_ret;exact⟨rfl,g⟩
end Tf
namespace Tf
open Bs
open Go.Sort (Holds grow putRow mapBlock holds_grow holds_putRow heap_grow_old)
def wL(w:kV)(a:XO)(fs:mW):Prop:=
 ∀i (h:i<fs.length),∃ad,a=some ad/\w.cell? (ad.add (i*2))=some (.string ⟨fs[i].1.toArray⟩)/\w.cell? (a_ ((ad.add (i*2)).block) ((ad.add (i*2)).off+1))=some (.string ⟨fs[i].2.toArray⟩)
def pV{w:kV}{p:Addr}{v:Value}(h:w.cell? p=some v):p.block<w.heap.size:=by
 by_cases a:p.block<w.heap.size
 ·exact a
 have b:w.heap[p.block]?=none:=by simp;omega
 simp[World.cell?,b]at h
def add_block(a:Addr)(n:Nat):(a.add n).block=a.block:=by unfold Addr.add;split<;>rfl
def wL.below{w w':kV}{a:XO}{c:mW}{n:Nat}(h:wL w a c)(f:Below n w w')(k:w.heap.size<=n):wL w' a c:=fun i j=>by
 obtain⟨b,e,d,g⟩:=h i j;have l:=pV d;refine⟨b,e,?_,?_⟩
 ·rw[f.cell (by omega)];exact d
 rw[f.cell (by show(b.add (i*2)).block<n;omega)];exact g
def wL.lower{w w':kV}{a:XO}{c:mW}{n:Nat}(h:wL w a c)(d:Below n w w')(m:∀b,a=some b->0<c.length->b.block<n):wL w' a c:=fun i l=>by
 obtain⟨b,e,j,k⟩:=h i l;have f:=m b e (by omega);have g:=add_block b (i*2);refine⟨b,e,?_,?_⟩
 ·rw[d.cell (by rw[g];exact f)];exact j
 rw[d.cell (by show(b.add (i*2)).block<n;rw[g];exact f)];exact k
def wL.old{w:kV}{a:XO}{d:mW}{n:Nat}(h:wL w a d)(j:w.heap.size<=n):∀b,a=some b->0<d.length->b.block<n:=fun b e i=>by
 obtain⟨A,c,f,_⟩:=h 0 i;have g:=pV f;rw[add_block]at g;rw[e]at c;obtain rfl:=aV c;omega
def vB(w:kV)(g:Nat)(L:List (XU)):Prop:=w.heap[g]?=some (.cells (L.map encStr).toArray 9 (0,0))
def vB.lt{w:kV}{g:Nat}{L:List (XU)}(h:vB w g L):g<w.heap.size:=(dU.1 h).1
def vB.cell{w:kV}{g:Nat}{L:List (XU)}(h:vB w g L)(j:Nat)(a:j<L.length):w.cell? (a_ g j)=some (.string ⟨L[j].toArray⟩):=by
 rw[af w g j _ _ _ h];simp[a]
def vB.free{w:kV}{g:Nat}{L:List (XU)}(h:vB w g L)(j:Nat):w.frozen? (a_ g j)=false:=by
 unfold vB at h;simp[World.frozen?,h]
def vB.set{w:kV}{g:Nat}{L:List (XU)}(h:vB w g L)(j:Nat)(x:XU):vB (w.setCell (a_ g j) (.string ⟨x.toArray⟩)) g (L.set j x):=by
 unfold vB at*;rw[bS w g j _ _ _ _ h,cO w g _ _ _ _ h];congr 2
 simp[List.map_set]
def vB.holds{w:kV}{g:Nat}{L:List (XU)}(h:vB w g L):Holds encStr w g 0 L.toArray:=fun j a=>by
 have A:j<L.length:=by simpa using a
 rw[fC];refine⟨?_,h.free j⟩;rw[h.cell j A];congr 3
 rw[List.getElem!_toArray,kR L j A]
def vB.made(w:kV)(n:Nat):vB (w.alloc (.cells (madeCells #[.string ⟨#[]⟩] n) 9)) w.heap.size (List.replicate n []):=by
 have e:madeCells #[Value.string ⟨#[]⟩] n=((List.replicate n ([]:XU)).map encStr).toArray:=by
  apply bL;rw[iM];simp[encStr]
 unfold vB;rw[e];exact ah w _
def vB.alloc{w:kV}{g:Nat}{L:List (XU)}(h:vB w g L)(o:Obj):vB (w.alloc o) g L:=by
 unfold vB at*;rw[aO _ _ _ (aC h)];exact h
def sN(fs:mW)(k:Nat):List (XU):=(nA fs).take k++List.replicate (fs.length-k) []
def J5(a:mW):sN a 0=List.replicate a.length []:=by simp[sN]
def LX(a:mW):sN a a.length=nA a:=by
 unfold sN;rw[<-oz a,bJ];simp
def J6(a:mW)(k:Nat)(h:k<a.length):(sN a k).set k a[k].1=sN a (k+1):=by
 have b:=oz a;unfold sN;rw[List.set_append_right _ _ (by rw[aX];omega),aX,b,jg (by omega),Nat.sub_self,show a.length-k=(a.length-(k+1))+1 by omega,List.replicate_succ,aA,aS (by omega),bY];simp[nA]
def Ir{N g:Nat}{w:kV}(n:Nat)(d:Array (XU))(os:Array Obj)(h:N<=g)(a:N<=w.heap.size):Below N w (grow (putRow encStr (Sort.ahead w n) g 0 d) os):=by
 refine⟨rfl,rfl,rfl,by simp,fun k b=> ?_⟩;rw[heap_grow_old _ _ (by simp;omega)];simp only[putRow,mapBlock,Sort.ahead,jo];rw[az (by omega)]
def Du:(prog.info? 9).map (fun i=>(i.zero,i.size,i.bytes))=some (some (.string ⟨#[]⟩),1,16):=by kernel_rfl
def Fe(a:XO)(B:Nat)(b:mW)(w:kV)(F:wL w a b)(hl:b.length<=268435456):
  C_ 297 #[.slice a b.length B] w (.bool (rW (nA b))) (y_ w):=by
 have U:=fun(w:kV)=>run_make_row' (P:=prog) 49 9 (.string ⟨#[]⟩) 16 iO Du rfl .i64 .i64 b.length (by omega) (by omega) w;have N:=ll F;have T:=ll (vB.made w b.length);clear F;go_enter func297,ntmps297;go_wp2;go_loopw [11] (fun i wr=>∃k:Nat,k<=b.length/\i=E4 k/\Hid (vB wr w.heap.size (sN b k))/\Hid (y_ w wr)) (fun i _=>b.length-(intOf i).toNat)
 case atStart=>exact⟨0,aR _,rfl,ll (by rw[J5];exact T),ll b1_⟩
 obtain⟨k,hk,rfl,f,z⟩:=hrel;rename kV=>wr;have G:=f.lt
 by_cases j:k<b.length
 ·obtain⟨ad,rfl,X,Y⟩:=N.below z (ae _) k j
  have O:(k:Int)<(b.length:Int):=by omega
  have f0:=f.free k;have W:(sN b k).length=b.length:=by unfold sN;rw[au,aX,oz,fV];omega
  have Z:=f.cell k (by omega);obtain⟨o,H⟩:∃o:XB,o=⟨(sN b k)[k].toArray⟩:=⟨_,rfl⟩;rw[<-H]at Z;have D:=ll (J6 b k j);have V:=ll (fun x=>f.set k x);obtain⟨n,v,J⟩:∃n v,b[k]=(n,v):=⟨_,_,rfl⟩;rw[J]at X Y D;clear J H W;go_wp2;go_roundw
  case rel=>exact⟨k+1,by omega,by go_num,ll (by rw[<-lq D];exact(V n).alloc _),ll ((z.setCell (ae _) _).alloc (by simp;omega) _)⟩
  simp[intOf];omega
 have e:k=b.length:=by omega
 have O: ¬(k:Int)<(b.length:Int):=by omega
 have C:Hid (vB wr w.heap.size (nA b)):=ll (by rw[<-LX,<-e];exact f);have y:=ll (Sf.slices_Sort_string w.heap.size 0 b.length (nA b) wr C.holds G (by rw[oz];omega));rw[oz]at y;have I:=ll (Jk (nA b));rw[oz]at I;have M:(yJ (nA b)).length=b.length:=by rw[JY,oz]
 have E:=ll M;have R:=ll (C.holds);clear e U M;go_wp2_with fail;refine on_ y ?_;rintro r ⟨n,L,l⟩;have A:r=grow (putRow encStr (Sort.ahead wr n) w.heap.size 0 (yJ (nA b)).toArray) L:=l;have d:y_ w r:=z.trans (by rw[A];exact Ir n _ L (ae _) (by omega));have g:Holds encStr r w.heap.size 0 (yJ (nA b)).toArray:=by
  rw[A];refine holds_grow _ _ _ _ _ _ (by simp;exact G) (holds_putRow _ _ _ _ (nA b).toArray _ R (by simp[lq E,oz]))
 have c:=ll (Sf.slices_Compact_string w.heap.size 0 b.length (yJ (nA b)) r g (by rw[lq E];omega) (by rw[lq E];exact ae _));rw[lq E]at c;have hz1:=d.size;have s:=ll d;clear l A g d y;obtain⟨m,hm⟩:=ex_ ((Lib.compact (yJ (nA b))).length);rw[<-hm]at c I;go_wp2_with fail;refine on_ c ?_;rintro w2 ⟨q,p⟩;have t:Hid (y_ w w2):=ll (s.trans (by
  rw[p,<-Sort.grow_empty (putRow _ _ _ _ _)]
  exact Ir q _ #[] (ae _) (by omega)))
 clear p c;go_wp2;go_ret;refine⟨?_,t⟩;rw[<-lq I];show Ending.returned (.bool _)=_;congr 2
 rw[jO];simp;omega
end Tf
namespace Tf
open Bs
def mX{w w':kV}(h:y_ w w'):∀b o,b<w.heap.size->w'.cell? (a_ b o)=w.cell? (a_ b o):=fun b o a=>h.cell (p:=(a_ b o)) a
def index_le(l:XU):decide (0<=Lib.indexByte l 0)=l.contains 0:=by
 induction l with
 |nil=>rfl
 |cons c r ih=>
  have A:=Lib.indexByte_ge r 0;unfold Lib.indexByte;rw[List.contains_cons]
  by_cases a:c=0
  ·subst a;simp
  have d:(c==0)=false:=by simpa using a
  have f:((0:UInt8)==c)=false:=by simpa using fun h=>a h.symm
  rw[d,f,iG,<-ih];simp only[aY,bD]
  by_cases b:Lib.indexByte r 0= -1
  ·rw[b];rfl
  have:(Lib.indexByte r 0== -1)=false:=by simpa using b
  rw[this];simp only[aY,bD];rw[decide_eq_decide];omega
end Tf
namespace Tf
open Bs Wt
def si(ss:List XB):XU:=ss.flatMap fun s=>s.data.toList++ [0]
def NY(a:List XB)(k:Nat)(h:k<a.length):si (a.take (k+1))=si (a.take k)++(a[k].data.toList++ [0]):=by
 rw[si,aS h,dH];simp[si]
def GG(a:List XB)(k:Nat):(si (a.take k)).length<=(si a).length:=by
 have e:si a=si (a.take k)++si (a.drop k):=by
  rw[si,si,si,<-dH,dV]
 rw[e,au];omega
def R9(B bs:Nat)(s t:XB)(L:XU)(w:kV)(a:Wr w B L)(A:bs=w.heap.size)(E:L.length+(s.size+t.size)<=1099511627776):
  C_ 191 #[p_ B,.slice (some (a_ bs 0)) 2 2] (w.alloc (.cells #[.string s,.string t] 9)) (.tuple #[]) fun w'=>Wr w' B (L++(s.data.toList++t.data.toList))/\Kept B w w':=by
 subst A;have b:flat [s,t]=s.data.toList++t.data.toList:=by simp[flat]
 have h:=Il B w.heap.size 2 [s,t] L _ (a.alloc (.cells #[.string s,.string t] 9)) a.lt (ah w _) (by rw[b,au,mg,mg];exact E) (by simp);refine on_ h ?_;rintro f ⟨c,d⟩;refine⟨rfl,?_,nY a d⟩;rw[<-b];exact c
def uV(B bs g:Nat)(a:List XB)(L:XU)(w:kV)(t:Wr w B L)(v:B<bs)
  (E:w.heap[bs]?=some (.cells (a.map Value.string).toArray 9 (0,0))) (O:L.length+(si a).length<=1099511627776) (z:a.length<=1099511627776):
  C_ 268 #[p_ B,.slice (some (a_ bs 0)) a.length g] w (.tuple #[]) fun w'=>Wr w' B (L++si a)/\Kept B w w':=by
 have p:=ll E;clear E;go_enter func268,ntmps268;go_wp2;go_loopw [8] (fun i wr=>∃k:Nat,k<=a.length/\i=E4 k/\Hid (Wr wr B (L++si (a.take k)))/\Hid (Kept B w wr)) (fun i _=>a.length-(intOf i).toNat)
 case atStart=>exact⟨0,aR _,rfl,ll (by simpa[si]using t),ll (Kept.refl _ _)⟩
 obtain⟨k,y,rfl,j,d⟩:=hrel;rename kV=>wr
 by_cases c:k<a.length
 ·have J:=d.others _ _ _ _ v p (by decide)
  have I:wr.cell? (a_ bs k)=some (.string a[k]):=by
   rw[af wr bs k _ _ _ J];simp[c]
  have M:(k:Int)<(a.length:Int):=by omega
  have f:=ll (NY a k c);have A:=GG a (k+1);rw[lq f,au,au,mg]at A;obtain⟨s,n⟩:=ex_ (a[k]);rw[<-n]at I f A;simp only[ax,bn]at A;have l:=ll (R9 B wr.heap.size s ⟨#[0]⟩ _ wr j rfl (by rw[au];show _+(_+1)<=_;omega));clear J n A;go_wp2_with fail;refine on_ l ?_;rintro C ⟨b,m⟩;have q:=ll b;have r:=ll (d.trans m);clear b m l I;go_wp2;go_roundw
  case rel=>exact⟨k+1,by omega,by go_num,ll (by rw[lq f,<-bY];exact q),r⟩
  simp[intOf];omega
 have e:k=a.length:=by omega
 subst e;have b:=lq j;rw[bJ]at b;have o:=ll b;clear b;go_wp2;go_end0;exact⟨rfl,o,d⟩
def Ua(B bs:Nat)(s:XB)(L:XU)(w:kV)(a:Wr w B L)(A:bs=w.heap.size)(E:L.length+s.size<=1099511620000):
  C_ 268 #[p_ B,.slice (some (a_ bs 0)) 1 1] (w.alloc (.cells #[.string s] 9)) (.tuple #[]) fun w'=>Wr w' B (L++(s.data.toList++ [0]))/\Kept B w w':=by
 subst A;have b:si [s]=s.data.toList++ [0]:=by simp[si]
 have h:=uV B w.heap.size 1 [s] L _ (a.alloc (.cells #[.string s] 9)) a.lt (ah w _) (by rw[b,au,mg];simp;omega) (by simp);refine on_ h ?_;rintro f ⟨c,d⟩;refine⟨rfl,?_,nY a d⟩;rw[<-b];exact c
def I4(B bs:Nat)(s t:XB)(L:XU)(w:kV)(a:Wr w B L)(A:bs=w.heap.size)(E:L.length+(s.size+t.size)<=1099511620000):
  C_ 268 #[p_ B,.slice (some (a_ bs 0)) 2 2] (w.alloc (.cells #[.string s,.string t] 9)) (.tuple #[]) fun w'=>Wr w' B (L++(s.data.toList++ [0]++(t.data.toList++ [0])))/\Kept B w w':=by
 subst A;have b:si [s,t]=s.data.toList++ [0]++(t.data.toList++ [0]):=by simp[si]
 have h:=uV B w.heap.size 2 [s,t] L _ (a.alloc (.cells #[.string s,.string t] 9)) a.lt (ah w _) (by rw[b];simp only[au,mg,ax,bn];omega) (by simp);refine on_ h ?_;rintro f ⟨c,d⟩;refine⟨rfl,?_,nY a d⟩;rw[<-b];exact c
def Pm(B:Nat)(a:XO)(o:Nat)(c:mW)(L:XU)(w:kV)(p:Wr w B L)(F:wL w a c)(G:∀m,a=some m->0<c.length->m.block<B)(hl:mM c<=2097152)(hL:L.length<=2097152):
  C_ 269 #[p_ B,.slice a c.length o,E4 1472] w (.tuple #[]) fun w'=>Kept B w w'/\∃M,Wr w' B M/\M.length<=8388608/\(M=L++oI c∨(1472<M.length/\1472<(L++oI c).length)):=by
 have R:=ll F;have T:=ll G;have a8:=p.lt;have a6:c.length<=mM c:=by unfold mM;omega
 have HW:=ll p;clear F G p;go_enter func269,ntmps269;go_wp2;go_loopw [10] (fun i wr=>∃k:Nat,k<=c.length/\i=E4 k/\Hid (Wr wr B (L++oI (c.take k)))/\Hid (Kept B w wr)) (fun i _=>c.length-(intOf i).toNat)
 case atStart=>exact⟨0,aR _,rfl,ll (by simpa[oI]using lq HW),ll (Kept.refl _ _)⟩
 obtain⟨k,hk,rfl,f,g⟩:=hrel;rename kV=>wr;obtain⟨v,j,A⟩:=lq f;obtain⟨ao,cp,U⟩:=yc A;have hB2:=aC j;have r:=bU j;rw[U]at r;have Y:(L++oI (c.take k)).length<=6291456:=by
  have h1:=F8 c k;have h2:=DW c;rw[au];omega
 by_cases d:k<c.length
 ·obtain⟨m,rfl,C,D⟩:=R.lower g.below T k d
  have a7:(k:Int)<(c.length:Int):=by omega
  obtain⟨n,x,I⟩:∃n x,c[k]=(n,x):=⟨_,_,rfl⟩;rw[I]at C D;have hd:n.length+x.length<=2097152:=by have:=AB c k d;rw[I]at this;simp only at this;omega
  have z:=ll (F5 c k d);rw[I]at z;obtain⟨X,q⟩:∃X,L++oI (c.take k)=X:=⟨_,rfl⟩;rw[q]at r Y;have l:=ll q;have W:Hid (Wr wr B X):=ll (by rw[<-lq l];exact f);obtain⟨t,E⟩:∃s:XB,s=⟨n.toArray⟩:=⟨_,rfl⟩;obtain⟨y,J⟩:∃s:XB,s=⟨x.toArray⟩:=⟨_,rfl⟩;have a2:t.size=n.length:=by rw[E,lF]
  have a4:y.size=x.length:=by rw[J,lF]
  rw[<-E]at C;rw[<-J]at D;have Z:Hid (t.data.toList++ [0]++(y.data.toList++ [0])=fd8 (n,x)):=ll (by rw[E,J];rfl);have HP:=ll (fun(u:kV) (hu:Wr u B X) (b:Nat) (hb:b=u.heap.size)=>I4 B b t y X u hu hb (by omega));clear j A U q I v f E J a2 a4
  by_cases hbig:1472<X.length
  ·have a0:(1472:Int)<(X.length:Int):=by omega
   go_wp2;go_end0;refine⟨rfl,g.trans ((Kept.refl B wr).alloc (by omega) _),X,W.alloc _,by omega,aF ⟨hbig,?_⟩⟩;have h1:=F8 c k;rw[<-lq l,au]at hbig;simp only[au];omega
  have a0: ¬(1472:Int)<(X.length:Int):=by omega
  go_wp2_with fail;refine on_ (HP _ (W.alloc _) _ (by simp)) ?_;rintro u ⟨H,N⟩;have K1:=ll H;have Q1:=ll N;clear H N;go_wp2;go_roundw
  case rel=>exact⟨k+1,by omega,by go_num,ll (by rw[lq z,<-bY,lq l,<-lq Z];exact K1),ll (g.trans (((Kept.refl B wr).alloc (by omega) _).trans Q1))⟩
  simp[intOf];omega
 have e:k=c.length:=by omega
 subst e;rw[bJ]at Y;have O:=lq f;rw[bJ]at O;have V:=ll O;clear j A U r v O;go_wp2;go_end0;exact⟨rfl,g,_,V,by omega,aG rfl⟩
def TJ(n:Nat):mf (n:Int)=Bq n:=by
 unfold mf Bq;have a:lV ((n:Int)/256)=UInt8.ofNat (n/256):=by
  apply dS.1;have h:=oN ((n:Int)/256);rw[iI];omega
 have b:lV (n:Int)=UInt8.ofNat n:=by
  apply dS.1;have h:=oN (n:Int);rw[iI];omega
 rw[a,b]
def xE{n:Nat}{x:Int}(h:(n:Int)=x):mf x=Bq n:=by rw[<-h];exact TJ n
def rR(n:Nat):(Bq n).length=2:=rfl
def aq4(B:Nat)(bl:Int)(ts ds:XB)(fa:XO)(fc:Nat)(m:sG)(w:kV)(f:Wr w B [])(Y:m.op=1)(U:(m.block:Int)=bl)(hb0:0<=bl)(hb1:bl<=65535)(J:ts.data.toList=m.text)(I:ds.data.toList=m.data)(t:wL w fa m.fs)(v:∀s,fa=some s->0<m.fs.length->s.block<B)(hl:mM m.fs<=1048576)(ht:m.text.length<=1048576)(hd:m.data.length<=1048576):
  C_ 235 #[p_ B,.agg (rT 1 bl ts ds fa m.fs.length fc)] w (.tuple #[]) fun w'=>Kept B w w'/\∃M,Wr w' B M/\M.length<=8388608/\(M=pg m∨(1472<M.length/\1472<(pg m).length)):=by
 obtain⟨W,A⟩:=ex_ (w.alloc (.cells (rT 1 bl ts ds fa m.fs.length fc) 133));have X:=f.lt;have E:W.heap[w.heap.size]?=some (.cells (rT 1 bl ts ds fa m.fs.length fc) 133 (0,0)):=by rw[A];exact ah w _
 have o:Hid (∀wr,Kept B W wr->∀j,wr.cell? (n_ w j)=(rT 1 bl ts ds fa m.fs.length fc)[j]?):=ll (fun wr hK j=>by
  rw[af wr w.heap.size j _ _ _ (hK.others _ _ _ _ X E (by decide))])
 have b:Hid (Wr W B []):=ll (by rw[A];exact f.alloc _);have a:Hid (Kept B w W):=ll (by rw[A];exact(Kept.refl B w).alloc (by omega) _);have b2:ts.size=m.text.length:=by rw[<-J,mg]
 have b0:ds.size=m.data.length:=by rw[<-I,mg]
 have H:=ll t;have l:=ll v;have V:=ll J;have a9:=ll I;have T:=ll Y;have a8:=ll U;have O:=ll A;clear E f t v J I Y U A;go_enter func235,ntmps235;go_wp2_with fail;rw[<-lq O];refine on_ (qK B _ 1 [] W b (by rw[lq O];simp) (by decide) (by decide) (by simp)) ?_;rintro i ⟨y,g⟩;have q:Hid (Wr i B (Bq 1)):=ll (by rw[<-xE (n:=1) (x:=1) rfl];simpa using y);have r:=ll g;have Z:=o i g;clear y g b;go_wp2_with fail;refine on_ (I4 B _ ts ⟨#[111,99,116,101,116]⟩ _ i q rfl (by rw[rR];show 2+(ts.size+5)<=_;omega)) ?_;rintro k ⟨z,D⟩;have L:Hid (Wr k B (Bq 1++(m.text++ [0]++(pO++ [0])))):=ll (by rw[<-lq V];exact z);have d:=ll (r.trans D);have a7:=o k d;clear z D q Z r;have p:=ll (Pm B fa fc m.fs (Bq 1++(m.text++ [0]++(pO++ [0]))) k L (H.lower (a.trans d).below l) l (by omega) (by simp[rR,pO];omega));go_wp2_with fail;refine on_ p ?_;rintro w9 ⟨F,M,C,l9,c⟩;have N:=ll C;have R:=ll F;have G:=ll c;clear C F c p;go_wp2;go_end0;refine⟨rfl,a.trans (d.trans R),M,N,l9,?_⟩;have c:=lq G;have eb:pg m=Bq 1++(m.text++ [0]++(pO++ [0]))++oI m.fs:=by unfold pg;rw[lq T];simp
 rw[eb];exact c
def am8(B:Nat)(bl:Int)(ts ds:XB)(fa:XO)(fc:Nat)(m:sG)(w:kV)(c:Wr w B [])(q:m.op=4)(Y:(m.block:Int)=bl)(d:0<=bl)(f:bl<=65535)(J:ts.data.toList=m.text)(I:ds.data.toList=m.data)(s:wL w fa m.fs)(t:∀r,fa=some r->0<m.fs.length->r.block<B)(hl:mM m.fs<=1048576)(ht:m.text.length<=1048576)(hd:m.data.length<=1048576):
  C_ 235 #[p_ B,.agg (rT 4 bl ts ds fa m.fs.length fc)] w (.tuple #[]) fun w'=>Kept B w w'/\∃M,Wr w' B M/\M.length<=8388608/\(M=pg m∨(1472<M.length/\1472<(pg m).length)):=by
 obtain⟨W,A⟩:=ex_ (w.alloc (.cells (rT 4 bl ts ds fa m.fs.length fc) 133));have G:=c.lt;have E:W.heap[w.heap.size]?=some (.cells (rT 4 bl ts ds fa m.fs.length fc) 133 (0,0)):=by rw[A];exact ah w _
 have k:Hid (∀wr,Kept B W wr->∀j,wr.cell? (n_ w j)=(rT 4 bl ts ds fa m.fs.length fc)[j]?):=ll (fun wr hK j=>by
  rw[af wr w.heap.size j _ _ _ (hK.others _ _ _ _ G E (by decide))])
 have a:Hid (Wr W B []):=ll (by rw[A];exact c.alloc _);have b:Hid (Kept B w W):=ll (by rw[A];exact(Kept.refl B w).alloc (by omega) _);have Z:ts.size=m.text.length:=by rw[<-J,mg]
 have X:ds.size=m.data.length:=by rw[<-I,mg]
 have L:=ll s;have N:=ll t;have V:=ll J;have T:=ll I;have O:=ll q;have F:=ll Y;have U:=ll A;clear E c s t J I q Y A;go_enter func235,ntmps235;go_wp2_with fail;rw[<-lq U];refine on_ (qK B _ 4 [] W a (by rw[lq U];simp) (by decide) (by decide) (by simp)) ?_;rintro i ⟨v,g⟩;have l:Hid (Wr i B (Bq 4)):=ll (by rw[<-xE (n:=4) (x:=4) rfl];simpa using v);have o:=ll g;have H:=k i g;clear v g a;go_wp2_with fail;refine on_ (qK B _ bl _ i l rfl d f (by simp[rR])) ?_;rintro C ⟨y,z⟩;have D:Hid (Wr C B (Bq m.op++Bq m.block)):=ll (by rw[lq O,<-xE F];exact y);have p:=ll (o.trans z);have R:=k C p;clear y z l H o;go_wp2;go_end0;refine⟨rfl,b.trans p,_,D,by simp[rR],aG ?_⟩;unfold pg;rw[lq O];rfl
def aq7(B:Nat)(bl:Int)(ts ds:XB)(fa:XO)(fc:Nat)(m:sG)(w:kV)(c:Wr w B [])(r:m.op=5)(Y:(m.block:Int)=bl)(d:0<=bl)(f:bl<=65535)(J:ts.data.toList=m.text)(I:ds.data.toList=m.data)(t:wL w fa m.fs)(v:∀s,fa=some s->0<m.fs.length->s.block<B)(hl:mM m.fs<=1048576)(ht:m.text.length<=1048576)(hd:m.data.length<=1048576):
  C_ 235 #[p_ B,.agg (rT 5 bl ts ds fa m.fs.length fc)] w (.tuple #[]) fun w'=>Kept B w w'/\∃M,Wr w' B M/\M.length<=8388608/\(M=pg m∨(1472<M.length/\1472<(pg m).length)):=by
 obtain⟨W,A⟩:=ex_ (w.alloc (.cells (rT 5 bl ts ds fa m.fs.length fc) 133));have T:=c.lt;have E:W.heap[w.heap.size]?=some (.cells (rT 5 bl ts ds fa m.fs.length fc) 133 (0,0)):=by rw[A];exact ah w _
 have l:Hid (∀wr,Kept B W wr->∀j,wr.cell? (n_ w j)=(rT 5 bl ts ds fa m.fs.length fc)[j]?):=ll (fun wr hK j=>by
  rw[af wr w.heap.size j _ _ _ (hK.others _ _ _ _ T E (by decide))])
 have a:Hid (Wr W B []):=ll (by rw[A];exact c.alloc _);have b:Hid (Kept B w W):=ll (by rw[A];exact(Kept.refl B w).alloc (by omega) _);have b2:ts.size=m.text.length:=by rw[<-J,mg]
 have b0:ds.size=m.data.length:=by rw[<-I,mg]
 have Z:=ll t;have HB:=ll v;have R:=ll J;have a9:=ll I;have O:=ll r;have N:=ll Y;have U:=ll A;clear E c t v J I r Y A;go_enter func235,ntmps235;go_wp2_with fail;rw[<-lq U];refine on_ (qK B _ 5 [] W a (by rw[lq U];simp) (by decide) (by decide) (by simp)) ?_;rintro i ⟨y,g⟩;have o:Hid (Wr i B (Bq 5)):=ll (by rw[<-xE (n:=5) (x:=5) rfl];simpa using y);have p:=ll g;have V:=l i g;clear y g a;go_wp2_with fail;refine on_ (qK B _ bl _ i o rfl d f (by simp[rR])) ?_;rintro k ⟨z,D⟩;have G:Hid (Wr k B (Bq m.op++Bq m.block)):=ll (by rw[lq O,<-xE N];exact z);have q:=ll (p.trans D);have a8:=l k q;clear z D o V p;go_wp2_with fail;refine on_ (Ua B _ ts _ k G rfl (by simp[rR];omega)) ?_;rintro X ⟨C,F⟩;have H:Hid (Wr X B (Bq m.op++Bq m.block++(m.text++ [0]))):=ll (by rw[<-lq R];exact C);have L:=ll (q.trans F);clear C F;go_wp2;go_end0;refine⟨rfl,b.trans L,_,H,by simp[rR];omega,aG ?_⟩;unfold pg;rw[lq O];simp
def DJ(s:XB)(w:kV):C_ 234 #[.string s] w (.bool (decide ((s.size:Int)<=1024))) fun w'=>w=w':=by
 go_enter func234,ntmps234;go_wp2;go_ret;exact⟨rfl,rfl⟩
def vw(w:kV):Wr (w.alloc (.cells #[.slice none 0 0] 240)) w.heap.size []:=⟨_,ah w _,aU _ _ _ _⟩
end Tf
namespace Tf
def k0{m:sG}(h:Qh m=0):DK m=true/\(pg m).length<=1472/\GD m=pg m:=by
 refine⟨?_,?_,by unfold GD;rw[aB h]⟩<;>(unfold Qh at h;split at h;· cases h)
 ·rename_i q;simpa using q
 split at h;· cases h
 split at h;· cases h
 omega
def Qx{a:mW}(h:vI a=true)(k:Nat)(b:k<a.length):lL a[k].1=true/\ny a[k].1=a[k].1/\lL a[k].2=true/\qF (a.take k) a[k].1=false:=by
 have q:vI (a.take (k+1))=true:=by
  cases e:vI (a.take (k+1))with
  |true=>rfl
  |false=>rw[JF a _ e]at h;cases h
 rw[NM a k b]at q;simp only[PW,bG,bK,iP]at q;exact⟨q.2.1.1.1,q.2.1.1.2,q.2.1.2,q.2.2⟩
end Tf
namespace Tf
open Bs Wt
def Z0(a:XO)(g:Nat)(b:mW)(w:kV)(D:wL w a b)(Z:mM b<=268435456)(F:vI b=true):
  C_ 266 #[.slice a b.length g] w (.bool true) (y_ w):=by
 have N:b.length<=mM b:=by unfold mM;omega
 have r:=ll D;have y:=ll F;clear D F;go_enter func266,ntmps266;go_wp2;go_loopw [7] (fun i wr=>∃k:Nat,k<=b.length/\i=E4 k/\Hid (y_ w wr)) (fun i _=>b.length-(intOf i).toNat)
 case atStart=>exact⟨0,aR _,rfl,ll (aK _ _)⟩
 obtain⟨k,X,rfl,f⟩:=hrel;rename kV=>wr;have M:=f.size
 by_cases c:k<b.length
 ·obtain⟨T,rfl,z,B⟩:=r.below f (ae _) k c
  have O:(k:Int)<(b.length:Int):=by omega
  have C:=AB b k c;obtain⟨l,E,m,_⟩:=Qx y k c;obtain⟨n,v,J⟩:∃n v,b[k]=(n,v):=⟨_,_,rfl⟩;rw[J]at z B C l E m;simp only at C l E m;obtain⟨o,A⟩:∃s:XB,s=⟨n.toArray⟩:=⟨_,rfl⟩;obtain⟨p,I⟩:∃s:XB,s=⟨v.toArray⟩:=⟨_,rfl⟩;rw[<-A]at z;rw[<-I]at B;have W:o.data.toList.length<=9223372036854775807:=by rw[A];simp;omega
  have Y:p.data.toList.length<=9223372036854775807:=by rw[I];simp;omega
  have H:=ll (fun(s:XB) (h:s.data.toList.length<=9223372036854775807) u=>vz s _ u rfl h);have d:=ll (fun u=>uY o n u (by rw[A]) (by omega));rw[E,<-A]at d;replace l:lL o.data.toList=true:=by rw[A];exact l
  replace m:lL p.data.toList=true:=by rw[I];exact m
  clear A I J E;go_wp2;go_region_held3 (fun u=>u.cell? (n_ wr 0)=some (.string o)/\u.cell? (n_ wr 1)=some (.string p)/\wr.heap.size<u.heap.size) (go_keep) (first|(go_at_call 76;refine(H _ (by first|exact W|exact Y) _).mono ?_;rintro e u ⟨rfl,rfl⟩)|(go_at_call 296;refine(d _).mono ?_;rintro e u ⟨rfl,j⟩;have V:=mX j;have L:=j.size;have R:wr.heap.size<u.heap.size:=by first|omega|(simp at L;omega)))
  have U:Hid (y_ w u):=ll (((f.alloc M _).drew).trans (‹Below _ _ u›.mono (by simp;omega)));go_wp2;exact⟨⟨k+1,by omega,by go_num,U⟩,by simp[intOf];omega⟩
 have O: ¬(k:Int)<(b.length:Int):=by omega
 have t:=ll (Fe a g b wr (r.below f (ae _)) (by omega));rw[show rW (nA b)=true by have q:=lq y;unfold vI at q;rw[bG]at q;exact q.2]at t;go_wp2_with fail;refine on_ t fun u j=>?_;have G:Hid (y_ w u):=ll (f.trans (j.mono M));clear j;go_wp2;go_ret;exact⟨rfl,G⟩
def ax0(o bl:Int)(ts ds:XB)(fa:XO)(fc:Nat)(m:sG)(w:kV)(I:(m.op:Int)=o)(d:o=1∨o=4∨o=5)(a:DK m=true)(J:ts.data.toList=m.text)(k:wL w fa m.fs)(p:mM m.fs<=2097152)(r:m.text.length<=2097152):
  C_ 233 #[.agg (rT o bl ts ds fa m.fs.length fc)] w (.bool true) (y_ w):=by
 obtain⟨W,E⟩:=ex_ (w.alloc (.cells (rT o bl ts ds fa m.fs.length fc) 133));have b:y_ w W:=by rw[E];exact(aK _ _).alloc (ae _) _
 have M:w.heap.size<=W.heap.size:=b.size;have i:=ll (vz ts m.text W J (by omega));have g:=ll (fun q=>Z0 fa fc m.fs W (k.below b (ae _)) (by omega) q);have f:=ll (Sf.strings_Contains_one ts 0 W);rw[J,index_le]at f;have c:=ll b;have A:=ll E;have O:∀j,W.cell? (n_ w j)=(rT o bl ts ds fa m.fs.length fc)[j]?:=fun j=>by rw[E,af _ w.heap.size j _ _ (0,0) (ah w _)]
 unfold DK at a;clear b k E
 rcases d with rfl|rfl|rfl
 ·rw[aB (by omega),bG]at a
  rw[a.1]at i;have g:=ll (g a.2);clear I a;go_enter func233,ntmps233;go_wp2_with fail;rw[<-lq A];refine i.mono ?_;rintro e u ⟨rfl,rfl⟩;rw[lq A];go_wp2_with fail;rw[<-lq A];refine on_ g fun u l=>?_;have n:Hid (y_ w u):=ll (c.trans (l.mono M));clear l;go_wp2;go_ret;exact⟨rfl,n⟩
 ·clear I a
  go_enter func233,ntmps233;go_wp2;go_ret;exact⟨rfl,by rw[<-lq A];exact lq c⟩
 rw[az (by omega),az (by omega),aB (by omega),iP]at a;rw[a]at f;clear I a;go_enter func233,ntmps233;go_wp2_with fail;rw[<-lq A];refine f.mono ?_;rintro e u ⟨rfl,rfl⟩;rw[lq A];go_wp2;go_ret;exact⟨rfl,by rw[<-lq A];exact lq c⟩
def Vk(B:Nat)(o bl:Int)(ts ds:XB)(fa:XO)(fc:Nat)(m:sG)(w:kV)(g:Wr w B [])(J:(m.op:Int)=o)(c:o=1∨o=4∨o=5)(A:(m.block:Int)=bl)(a:0<=bl)(b:bl<=65535)(I:ts.data.toList=m.text)(E:ds.data.toList=m.data)(d:wL w fa m.fs)(f:∀l,fa=some l->0<m.fs.length->l.block<B)(j:mM m.fs<=1048576)(k:m.text.length<=1048576)(i:m.data.length<=1048576):
  C_ 235 #[p_ B,.agg (rT o bl ts ds fa m.fs.length fc)] w (.tuple #[]) fun w'=>Kept B w w'/\∃M,Wr w' B M/\M.length<=8388608/\(M=pg m∨(1472<M.length/\1472<(pg m).length)):=by
 rcases c with rfl|rfl|rfl
 ·exact aq4 B bl ts ds fa fc m w g (by omega) A a b I E d f j k i
 ·exact am8 B bl ts ds fa fc m w g (by omega) A a b I E d f j k i
 exact aq7 B bl ts ds fa fc m w g (by omega) A a b I E d f j k i
def ad3(o bl:Int)(ts ds:XB)(fa:XO)(fc:Nat)(m:sG)(w:kV)(I:(m.op:Int)=o)(t:Qh m=0)(b:o=1∨o=4∨o=5)(U:(m.block:Int)=bl)(q:0<=bl)(r:bl<=65535)(J:ts.data.toList=m.text)(Y:ds.data.toList=m.data)(g:wL w fa m.fs)(hl:mM m.fs<=1048576)(ht:m.text.length<=1048576)(hd:m.data.length<=1048576):
  C_ 199 #[.agg (rT o bl ts ds fa m.fs.length fc)] w (.tuple #[.string ⟨(GD m).toArray⟩,E4 (Qh m)]) (y_ w):=by
 obtain⟨C,b0,F⟩:=k0 t;rw[t,F];obtain⟨W,A⟩:=ex_ (w.alloc (.cells (rT o bl ts ds fa m.fs.length fc) 133));have d:y_ w W:=by rw[A];exact(aK _ _).alloc (ae _) _
 have a9:W.heap.size=w.heap.size+1:=by rw[A];simp
 have c:Hid (∀u,y_ W u->y_ w u/\∀j,u.cell? (n_ w j)=(rT o bl ts ds fa m.fs.length fc)[j]?):=ll fun u L=>⟨d.trans (L.mono (by omega)),fun j=>by rw[L.cell (p:=(n_ w j)) (by show w.heap.size<_;omega),A,af _ w.heap.size j _ _ (0,0) (ah w _)]⟩;have B:=ll (ax0 o bl ts ds fa fc m W I b C J (g.below d (ae _)) (by omega) (by omega));have n:Hid (∀a,y_ W a->_):=ll fun a G=>have hz:=G.size;have Z:=(c a G).1;Vk a.heap.size o bl ts ds fa fc m _ (vw a) I b U q r J Y (g.below (Z.alloc (by omega) _) (ae _)) (g.old (by omega)) hl ht hd;have e3:(o==3)=false:=by rw[aP];omega
 have O:=ll A;clear d g A J Y I U C F t;generalize pg m=bm at*;go_enter func199,ntmps199;go_wp2_with fail;rw[<-lq O];refine on_ B fun a i=>?_;obtain⟨f,V⟩:=c _ i;have hz1:w.heap.size<a.heap.size:=by have:=i.size;omega
 have n:=ll (n _ i);have k:=ll f;have X:∀j z,(a.alloc z).cell? (n_ w j)=(rT o bl ts ds fa m.fs.length fc)[j]?:=fun j z=>by
  rw[((aK a.heap.size a).alloc (ae _) z).cell (p:=(n_ w j)) (by show w.heap.size<_;omega)];exact V j
 clear i B O f c;go_wp2_with fail;refine on_ n ?_;rintro R ⟨N,M,k2,l2,H⟩;obtain rfl:M=bm:=H.resolve_right (by omega);obtain⟨v,y,E⟩:=k2;obtain⟨ao,cp,D⟩:=yc E;have s:=bU y;rw[D]at s;have l:Hid (y_ w R):=ll ((k.alloc (by omega) _).trans (N.below.mono (by omega)));have T:=ll (qg a.heap.size M R ⟨v,y,E⟩);have a8: ¬(1472:Int)<(M.length:Int):=by omega
 clear y E D N v X H;go_wp2_with fail;refine T.mono ?_;rintro e w3 ⟨rfl,rfl⟩;go_wp2;go_ret2;exact⟨rfl,l⟩
end Tf
namespace Tf
open Bs
def mQ(fs:mW):XL:=fs.flatMap fun f=> [.string ⟨f.1.toArray⟩,.string ⟨f.2.toArray⟩]
def Ac(a b:mW):mQ (a++b)=mQ a++mQ b:=by simp[mQ]
def Gm(a:mW)(i:Nat)(h:i<a.length):(mQ a)[i*2]?=some (.string ⟨a[i].1.toArray⟩)/\(mQ a)[i*2+1]?=some (.string ⟨a[i].2.toArray⟩):=by
 induction a generalizing i with
 |nil=>simp at h
 |cons o r ih=>
  cases i with
  |zero=>exact⟨rfl,rfl⟩
  |succ i=>
   have:=ih i (by simpa using h);simp only[mQ,bX]at this ⊢;rw[show(i+1)*2=i*2+1+1 by omega];simpa using this
def yQ(a:Addr)(n:Nat):((a_ ((a.add n).block) ((a.add n).off+1)):Addr)=a.add (n+1):=by
 unfold Addr.add
 by_cases h:n=0
 ·subst h;simp
 simp[h];omega
def wL.Ck{w:kV}{a:Addr}{b:mW}(h:∀j u,(mQ b)[j]?=some u->w.cell? (a.add j)=some u):wL w (some a) b:=fun i f=>by
 obtain⟨c,d⟩:=Gm b i f;exact⟨a,rfl,h _ _ c,by rw[yQ];exact h _ _ d⟩
end Tf
end Go.Proofs.YtnbaacgmlbhhcaaGreatDoor
