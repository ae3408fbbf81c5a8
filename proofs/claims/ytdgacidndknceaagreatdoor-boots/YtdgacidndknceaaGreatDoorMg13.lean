import Derived.Test.YtdgacidndknceaaGreatDoorMg16
set_option linter.all false
set_option maxHeartbeats 1000000
set_option maxRecDepth 10000
open Go.ChangeShapes Go.WideShapes Go.ChangeAt Go.RowKit
open Go.Proofs.Tryz
namespace Go.Proofs.YtdgacidndknceaaGreatDoor
namespace Dh
def chunks(c:UInt8)(d:List UInt8):List Pc:=
 if 255<d.length then(c,d.take 255)::chunks c (d.drop 255)else [(c,d)]
termination_by d.length
decreasing_by simp;omega
theorem Xb(c:UInt8)(d:List UInt8)(h:255<d.length):chunks c d=(c,d.take 255)::chunks c (d.drop 255):=by
 rw[chunks,bp0 h]
theorem WT(c:UInt8)(d:List UInt8)(h: ¬255<d.length):chunks c d=[(c,d)]:=by
 rw[chunks,bo4 h]
theorem Zw(c n:UInt8)(q r:List UInt8)(h0:c.toNat≠0)(h1:c.toNat≠255)(hn:q.length=n.toNat):pieces (c::n::(q++r))=(pieces r).map fun ps=>(c,q)::ps:=by
 rw[pieces];simp only[h0,h1,bz1];rw[bo4 (by rw[bn6];omega),<-hn,List.drop_left,bD8]
theorem Zh(c:UInt8)(d r:List UInt8)(h0:c.toNat≠0)(h1:c.toNat≠255):pieces (qc c d++r)=(pieces r).map fun ps=>chunks c d++ps:=by
 by_cases h:255<d.length
 ·have ih:=Zh c (d.drop 255) r h0 h1
  rw[ny c d h,Xb c d h];rw[bw1,bw1,bq1,Zw c 255 (d.take 255) _ h0 h1 (by rw[bp7];show min 255 d.length=255;omega),ih]
  cases pieces r<;>simp
 rw[mq c d h,WT c d h,bw1,bw1,Zw c (UInt8.ofNat d.length) d r h0 h1 (by rw[bA5 (by show d.length<256;omega)])];rfl
termination_by d.length
decreasing_by simp;omega
def Wu(os:gU):List Pc:=os.flatMap fun o=>chunks o.1 o.2
theorem YW:∀(os:gU) (z:List UInt8),bad os=false->pieces (jb os++255::z)=some (Wu os)
 |[],z,_=>by
  show pieces (255::z)=some [];rw[pieces.eq_def];simp
 |o::r,z,h=>by
  simp only[bad,bz2,bv9]at h;have ih:=YW r z h.2;have hb:=h.1;simp only[sj,bv9,bA7]at hb;have e:jb (o::r)++255::z=qc o.1 o.2++(jb r++255::z):=by simp[jb]
  rw[e,Zh _ _ _ hb.1.1 hb.2,ih];simp[Wu]
theorem add_add(l:List Pc)(c:UInt8)(x y:List UInt8):add (add l (c,x)) (c,y)=add l (c,x++y):=by
 induction l with
 |nil=>simp[add]
 |cons a r ih=>
  by_cases h:a.1=c
  ·simp[add,h]
  simp only[add,h,bz1];rw[ih]
theorem YT(l:List Pc)(c:UInt8)(x d:List UInt8):gW (add l (c,x)) (chunks c d)=add l (c,x++d):=by
 by_cases h:255<d.length
 ·have ih:=YT l c (x++d.take 255) (d.drop 255)
  rw[Xb c d h];show gW (add (add l (c,x)) (c,d.take 255)) (chunks c (d.drop 255))=_;rw[add_add,ih,bq1,bs6]
 rw[WT c d h];exact add_add l c x d
termination_by d.length
decreasing_by simp;omega
theorem Z0(l:List Pc)(c:UInt8)(d:List UInt8):gW l (chunks c d)=add l (c,d):=by
 by_cases h:255<d.length
 ·rw[Xb c d h]
  show gW (add l (c,d.take 255)) (chunks c (d.drop 255))=_;rw[YT,bs6]
 rw[WT c d h];rfl
theorem ai7(l a b:List Pc):gW l (a++b)=gW (gW l a) b:=by simp[gW]
theorem ZH:∀(os:gU) (l:List Pc),gW l (Wu os)=gW l os
 |[],l=>rfl
 |o::r,l=>by
  have e:Wu (o::r)=chunks o.1 o.2++Wu r:=by simp[Wu]
  rw[e,ai7,Z0,ZH r];rfl
theorem ZN(c x:UInt8)(d:List UInt8)(h:c≠x):has (chunks c d) x=false:=by
 by_cases h2:255<d.length
 ·have ih:=ZN c x (d.drop 255) h
  rw[Xb c d h2];simp only[has,bz2,bv9];exact⟨by simpa using h,ih⟩
 rw[WT c d h2];simpa[has]using h
termination_by d.length
decreasing_by simp;omega
theorem ZY(os:gU)(h:bad os=false):has (Wu os) 52=false:=by
 induction os with
 |nil=>rfl
 |cons o r ih=>
  simp only[bad,bz2,bv9]at h;have hb:=h.1;simp only[sj,bv9,bA7]at hb;have e:Wu (o::r)=chunks o.1 o.2++Wu r:=by simp[Wu]
  rw[e];simp only[has,bE4,bv9];exact⟨ZN o.1 52 o.2 (fun e=>hb.1.2 (by rw[e];rfl)),ih h.2⟩
theorem ar6(os:gU)(z host file:List UInt8)(h:bad os=false):nE (jb os++255::z) host file=0/\oW (jb os++255::z) host file=gW [] os:=by
 unfold nE oW;rw[YW os z h];simp only[ZY os h];exact⟨rfl,ZH os []⟩
end Dh
namespace Js
open Bs
variable{w0:World} {P:Nat→Prop} {w w':World} {B:Nat} {m m' mz:Mc}
theorem o7(h:Mx w0 P w B m)(s t:Int)(Z:Mc->Prop)(h0:m.now<t->Z m)(h1: ¬m.now<t->s=4->∀b,Z (m.fail.at b))(hs:s<=4)
  (HF: ¬m.now<t->s≠4->∀u,Mx w0 P u B m->Calls prog 92 #[p_ B] u fun ee w'=>ee=.returned (.tuple #[])/\∃mz,Z mz/\Mx w0 P w' B mz):
  Calls prog 87 #[p_ B,.agg #[.int .i64 s,.int .i64 t],.func (.func 92) #[] #[]] w fun ee w'=>ee=.returned (.tuple #[])/\∃mz,Z mz/\Mx w0 P w' B mz:=by
 by_cases hn:m.now<t
 ·refine on_ (ae1 h s t _ hn) fun u hu=>?_
  exact⟨rfl,m,h0 hn,hu⟩
 have HM:=Fe (h.alloc (.cells #[.int .i64 s,.int .i64 t] 107));have c14:=h.c14;have hlt:=h.lt;clear h
 by_cases h2:s=4
 ·have HFL:=fun(k:Nat)=>Fe (oM (w:=(w.alloc (.cells #[.int .i64 s,.int .i64 t] 107)).drewN k) (HM.like ⟨rfl,rfl,rfl,rfl⟩))
  have HZ:=Fe (h1 hn h2);clear HM HF h0 h1;subst h2;go_enter func87,ntmps87;go_wp2;go_quiet (fail);go_wp2_with fail;refine on_ (gB (HFL _)) ?_;rintro u ⟨b,hu⟩;have HU:=Fe hu;clear hu HFL;go_wp2;go_end0;exact⟨rfl,_,HZ b,HU⟩
 have HFF:=Fe (HF hn h2);have h2b:(s==4)=false:=by simpa using h2
 clear HF h0 h1 h2;go_enter func87,ntmps87;go_wp2;go_quiet (fail);go_wp2_with fail;refine bt1 (HFF _ ?_) ?_
 ·exact HM.like ⟨rfl,rfl,rfl,rfl⟩
 rintro ee u ⟨rfl,mz,hz,hu⟩;have HU:=Fe hu;have HZ:=Fe hz;clear hu hz HFF;go_wp2;go_end0;exact⟨rfl,mz,HZ,HU⟩
end Js
end Go.Proofs.YtdgacidndknceaaGreatDoor
