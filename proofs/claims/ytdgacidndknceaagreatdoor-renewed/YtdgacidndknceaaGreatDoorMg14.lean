import Derived.Test.YtdgacidndknceaaGreatDoorMg16
set_option linter.all false
set_option maxHeartbeats 4000000
set_option maxRecDepth 10000
open Go.ChangeShapes Go.WideShapes Go.ChangeAt Go.RowKit
open Go renaming Calls → f_
open Go.Proofs.Tryz renaming prog → Vh
open Go.Proofs.Tryz
namespace Go.Proofs.YtdgacidndknceaaGreatDoor
namespace Dh
def chunks(c:UInt8)(d:List UInt8):List Pc:=
 if 255<d.length then(c,d.take 255)::chunks c (d.drop 255)else [(c,d)]
termination_by d.length
decreasing_by simp;omega
theorem Xb(c:UInt8)(d:List UInt8)(h:255<d.length):chunks c d=(c,d.take 255)::chunks c (d.drop 255):=by
 rw[chunks,bp0 h]
theorem WT(c:UInt8)(d:List UInt8)(h: ¬255<d.length):chunks c d=[(c,d)]:=by
 rw[chunks,bo4 h]
theorem Zw(c n:UInt8)(q r:List UInt8)(h0:c.toNat≠0)(h1:c.toNat≠255)(hn:q.length=n.toNat):pieces (c::n::(q++r))=(pieces r).map fun ps=>(c,q)::ps:=by
 rw[pieces];simp only[h0,h1,bz1];rw[bo4 (by rw[bn6];omega),<-hn,List.drop_left,bD8]
theorem Zh(c:UInt8)(d r:List UInt8)(h0:c.toNat≠0)(h1:c.toNat≠255):pieces (qc c d++r)=(pieces r).map fun ps=>chunks c d++ps:=by
 by_cases h:255<d.length
 ·have ih:=Zh c (d.drop 255) r h0 h1
  rw[ny c d h,Xb c d h];rw[bw1,bw1,bq1,Zw c 255 (d.take 255) _ h0 h1 (by rw[bp7];show min 255 d.length=255;omega),ih]
  cases pieces r<;>simp
 rw[mq c d h,WT c d h,bw1,bw1,Zw c (UInt8.ofNat d.length) d r h0 h1 (by rw[bA5 (by show d.length<256;omega)])];rfl
termination_by d.length
decreasing_by simp;omega
def Wu(os:gU):List Pc:=os.flatMap fun o=>chunks o.1 o.2
theorem YW:∀(os:gU) (z:List UInt8),bad os=false->pieces (jb os++255::z)=some (Wu os)
 |[],z,_=>by
  show pieces (255::z)=some [];rw[pieces.eq_def];simp
 |o::r,z,h=>by
  simp only[bad,bz2,bv9]at h;have ih:=YW r z h.2;have hb:=h.1;simp only[sj,bv9,bA7]at hb;have e:jb (o::r)++255::z=qc o.1 o.2++(jb r++255::z):=by simp[jb]
  rw[e,Zh _ _ _ hb.1.1 hb.2,ih];simp[Wu]
theorem add_add(l:List Pc)(c:UInt8)(x y:List UInt8):add (add l (c,x)) (c,y)=add l (c,x++y):=by
 induction l with
 |nil=>simp[add]
 |cons a r ih=>
  by_cases h:a.1=c
  ·simp[add,h]
  simp only[add,h,bz1];rw[ih]
theorem YT(l:List Pc)(c:UInt8)(x d:List UInt8):gW (add l (c,x)) (chunks c d)=add l (c,x++d):=by
 by_cases h:255<d.length
 ·have ih:=YT l c (x++d.take 255) (d.drop 255)
  rw[Xb c d h];show gW (add (add l (c,x)) (c,d.take 255)) (chunks c (d.drop 255))=_;rw[add_add,ih,bq1,bs6]
 rw[WT c d h];exact add_add l c x d
termination_by d.length
decreasing_by simp;omega
theorem Z0(l:List Pc)(c:UInt8)(d:List UInt8):gW l (chunks c d)=add l (c,d):=by
 by_cases h:255<d.length
 ·rw[Xb c d h]
  show gW (add l (c,d.take 255)) (chunks c (d.drop 255))=_;rw[YT,bs6]
 rw[WT c d h];rfl
theorem ai7(l a b:List Pc):gW l (a++b)=gW (gW l a) b:=by simp[gW]
theorem ZH:∀(os:gU) (l:List Pc),gW l (Wu os)=gW l os
 |[],l=>rfl
 |o::r,l=>by
  have e:Wu (o::r)=chunks o.1 o.2++Wu r:=by simp[Wu]
  rw[e,ai7,Z0,ZH r];rfl
theorem ZN(c x:UInt8)(d:List UInt8)(h:c≠x):has (chunks c d) x=false:=by
 by_cases h2:255<d.length
 ·have ih:=ZN c x (d.drop 255) h
  rw[Xb c d h2];simp only[has,bz2,bv9];exact⟨by simpa using h,ih⟩
 rw[WT c d h2];simpa[has]using h
termination_by d.length
decreasing_by simp;omega
theorem ZY(os:gU)(h:bad os=false):has (Wu os) 52=false:=by
 induction os with
 |nil=>rfl
 |cons o r ih=>
  simp only[bad,bz2,bv9]at h;have hb:=h.1;simp only[sj,bv9,bA7]at hb;have e:Wu (o::r)=chunks o.1 o.2++Wu r:=by simp[Wu]
  rw[e];simp only[has,bE4,bv9];exact⟨ZN o.1 52 o.2 (fun e=>hb.1.2 (by rw[e];rfl)),ih h.2⟩
theorem ar6(os:gU)(z host file:List UInt8)(h:bad os=false):nE (jb os++255::z) host file=0/\oW (jb os++255::z) host file=gW [] os:=by
 unfold nE oW;rw[YW os z h];simp only[ZY os h];exact⟨rfl,ZH os []⟩
end Dh
namespace Js
open Bs
variable{w0:World} {P:Nat→Prop} {w w':World} {B:Nat} {m m' mz:Mc}
theorem aZ6(h:Mx w0 P w B m)(s:Int)(hs:s=5∨s=6)(ho:(m.bD s).Ok)(Z:Mc->Prop)
  (hY:s=6->Z ((m.bD s).say 3 []))
  (hN:s=5->∀u,Mx w0 P u B (m.bD s)->f_ Vh 143 #[p_ B,.int .u32 m.iO,.agg (rI 68 67 ((m.bD s).qz 3 []))] u fun ee w'=>ee=.returned (.tuple #[])/\∃mz,(Z mz/\mz.iO=m.iO)/\Mx w0 P w' B mz):
  f_ Vh 142 #[p_ B,.int .i64 s] w fun ee w'=>ee=.returned (.tuple #[])/\∃mz,Z mz/\Mx w0 P w' B mz:=by
 have HM:=M0 h;have c14:=h.c14;have c28:=h.c28;have nk:=h.nk;have TF:=h.TF;have f25:=h.free 25;have f39:=h.free 39;have HA:Hid (Mx w0 P ((w.setCell (a_ B 25) (.int .i64 s)).setCell (a_ B 39) (.int .i64 m.now)) B (m.bD s)):=M0 ((h.TN s).UK m.now);have HY:Hid (∀u,Mx w0 P u B (m.bD s)->f_ Vh 138 #[p_ B,.int .u8 3,.slice none 0 0] u fun ee w'=>ee=.returned (.tuple #[])/\Mx w0 P w' B ((m.bD s).say 3 [])):=M0 (fun u hu=>PT hu ho 3 (by decide));have HG:Hid (∀u,Mx w0 P u B (m.bD s)->f_ Vh 177 #[p_ B,.int .u8 3,.slice none 0 0] u fun ee w'=>ee=.returned (.agg (rI 68 67 ((m.bD s).qz 3 [])))/\Mx w0 P w' B (m.bD s)):=M0 (fun u hu=>Gx hu ho 3 (by decide));have HN:=M0 hN;have HYZ:=M0 hY;clear h hN hY
 rcases hs with rfl|rfl
 ·go_enter func142,ntmps142
  go_wp2;obtain⟨X,hX⟩:=ex_ ((w.setCell (a_ B 25) (.int .i64 5)).setCell (a_ B 39) (.int .i64 m.now));rw[<-hX]at HA ⊢;have d28:X.cell? (a_ B 28)=some (.int .u32 m.iO):=HA.c28;clear hX c14 c28 nk TF f25 f39 HM;go_region_held3 (fun u=>u.cell? (a_ B 28)=some (.int .u32 m.iO)) (go_keep)
   (first|(go_at_call 177;refine(HG _ HA.drew).mono ?_;rintro ee u ⟨rfl,h1⟩;have e28:u.cell? (a_ B 28)=some (.int .u32 m.iO):=h1.c28;have H1:=M0 h1;clear h1)|(go_at_call 143;refine(HN (by first|trivial|rfl) _ H1).mono ?_;rintro ee u2 ⟨rfl,mz,hz,h2⟩;have g28:u2.cell? (a_ B 28)=some (.int .u32 m.iO):=(by have q:=h2.c28;rw[hz.2]at q;exact q);have H2:=M0 h2;have HZ:=M0 hz;clear h2 hz))
  go_wp2;go_end0;exact⟨rfl,mz,HZ.1,H2⟩
 go_enter func142,ntmps142;go_wp2_with fail;refine on_ (HY _ HA) fun u2 h2=>?_;have H2:=M0 h2;clear h2;go_wp2;go_end0;exact⟨rfl,_,HYZ (by first|trivial|rfl),H2⟩
theorem aW5(h:Mx w0 P w B m)(hen:m.ends=true)(hst:m.st=4∨m.st=5∨m.st=6)(Z:Mc->Prop)(a q:Int)(ha:wrap64 (m.now-m.gr)%4294967296=a)(hq:wrap64 (m.asked+8)=q)
  (h0:a<m.over->(a<m.iZ∨m.st=6)->(a<m.old∨m.st≠4)->(m.st=4∨m.now<q)->Z m)
  (hD:m.over<=a->∀u,Mx w0 P u B m->f_ Vh 141 #[p_ B] u fun ee w'=>ee=.returned (.tuple #[])/\∃mz,Z mz/\Mx w0 P w' B mz)
  (hN:∀s u,a<m.over->(s=6/\m.iZ<=a/\m.st≠6∨s=5/\a<m.iZ/\m.old<=a/\m.st=4∨s=m.st/\m.st≠4/\(a<m.iZ∨m.st=6)/\q<=m.now)->Mx w0 P u B m->f_ Vh 142 #[p_ B,.int .i64 s] u fun ee w'=>ee=.returned (.tuple #[])/\∃mz,Z mz/\Mx w0 P w' B mz):
  f_ Vh 90 #[p_ B] w fun ee w'=>ee=.returned (.tuple #[])/\∃mz,Z mz/\Mx w0 P w' B mz:=by
 have HX:=M0 (h.alloc (.cells (rK m.mask m.yz m.FJ m.ends m.old m.iZ m.over) 109 (0,0)));have c14:=h.c14;have nk:=h.nk;have c31:=h.c31;have c32:=h.c32;have qd:=h.qd;have c34:=h.c34;have Qu:=h.Qu;have Qw:=h.Qw;have c37:=h.c37;have aX6:=h.aX6;have TF:=h.TF;have hlt:=h.lt;have hB:B≠w.heap.size:=bo5 hlt;rw[hen]at Qu HX;have H0:=M0 h0;have HD:=M0 hD;have HN:=M0 hN;clear h h0 hD hN hen;have hq2:IntKind.i64.wrap (m.asked+8)=q:=by rw[<-hq,wrapM]
 by_cases h1:m.over<=a
 ·rcases hst with e|e|e
  all_goals
   rw[e]at nk;go_enter func90,ntmps90;go_wp2;go_quiet (fail);go_wp2_with fail;all_goals first
    |(go_at_call 141;refine bt1 (HD (by omega) _ ?_) ?_;(exact HX.like ⟨rfl,rfl,rfl,rfl⟩);rintro ee u ⟨rfl,mz,hz,h2⟩;have HZ:=M0 hz;have H2:=M0 h2;clear hz h2;go_wp2;go_end0;exact⟨rfl,mz,HZ,H2⟩)
    |(go_at_call 142;refine bt1 (HN _ _ (by omega) (by omega) ?_) ?_;(exact HX.like ⟨rfl,rfl,rfl,rfl⟩);rintro ee u ⟨rfl,mz,hz,h2⟩;have HZ:=M0 hz;have H2:=M0 h2;clear hz h2;go_wp2;go_end0;exact⟨rfl,mz,HZ,H2⟩)
    |(go_quiet (fail)
      go_wp2_with fail
      all_goals first
       |(go_at_call 142;refine bt1 (HN _ _ (by omega) (by omega) ?_) ?_;(exact HX.like ⟨rfl,rfl,rfl,rfl⟩);rintro ee u ⟨rfl,mz,hz,h2⟩;have HZ:=M0 hz;have H2:=M0 h2;clear hz h2;go_wp2;go_end0;exact⟨rfl,mz,HZ,H2⟩)
       |(go_end0;exact⟨rfl,m,H0 (by omega) (by omega) (by omega) (by omega),HX.like ⟨rfl,rfl,rfl,rfl⟩⟩))
 by_cases h2:m.iZ<=a
 ·rcases hst with e|e|e
  ·rw[e]at nk
   go_enter func90,ntmps90;go_wp2;go_quiet (fail);go_wp2_with fail;all_goals first
    |(go_at_call 141;refine bt1 (HD (by omega) _ ?_) ?_;(exact HX.like ⟨rfl,rfl,rfl,rfl⟩);rintro ee u ⟨rfl,mz,hz,h2⟩;have HZ:=M0 hz;have H2:=M0 h2;clear hz h2;go_wp2;go_end0;exact⟨rfl,mz,HZ,H2⟩)
    |(go_at_call 142;refine bt1 (HN _ _ (by omega) (by omega) ?_) ?_;(exact HX.like ⟨rfl,rfl,rfl,rfl⟩);rintro ee u ⟨rfl,mz,hz,h2⟩;have HZ:=M0 hz;have H2:=M0 h2;clear hz h2;go_wp2;go_end0;exact⟨rfl,mz,HZ,H2⟩)
    |(go_quiet (fail)
      go_wp2_with fail
      all_goals first
       |(go_at_call 142;refine bt1 (HN _ _ (by omega) (by omega) ?_) ?_;(exact HX.like ⟨rfl,rfl,rfl,rfl⟩);rintro ee u ⟨rfl,mz,hz,h2⟩;have HZ:=M0 hz;have H2:=M0 h2;clear hz h2;go_wp2;go_end0;exact⟨rfl,mz,HZ,H2⟩)
       |(go_end0;exact⟨rfl,m,H0 (by omega) (by omega) (by omega) (by omega),HX.like ⟨rfl,rfl,rfl,rfl⟩⟩))
  ·rw[e]at nk
   go_enter func90,ntmps90;go_wp2;go_quiet (fail);go_wp2_with fail;all_goals first
    |(go_at_call 141;refine bt1 (HD (by omega) _ ?_) ?_;(exact HX.like ⟨rfl,rfl,rfl,rfl⟩);rintro ee u ⟨rfl,mz,hz,h2⟩;have HZ:=M0 hz;have H2:=M0 h2;clear hz h2;go_wp2;go_end0;exact⟨rfl,mz,HZ,H2⟩)
    |(go_at_call 142;refine bt1 (HN _ _ (by omega) (by omega) ?_) ?_;(exact HX.like ⟨rfl,rfl,rfl,rfl⟩);rintro ee u ⟨rfl,mz,hz,h2⟩;have HZ:=M0 hz;have H2:=M0 h2;clear hz h2;go_wp2;go_end0;exact⟨rfl,mz,HZ,H2⟩)
    |(go_quiet (fail)
      go_wp2_with fail
      all_goals first
       |(go_at_call 142;refine bt1 (HN _ _ (by omega) (by omega) ?_) ?_;(exact HX.like ⟨rfl,rfl,rfl,rfl⟩);rintro ee u ⟨rfl,mz,hz,h2⟩;have HZ:=M0 hz;have H2:=M0 h2;clear hz h2;go_wp2;go_end0;exact⟨rfl,mz,HZ,H2⟩)
       |(go_end0;exact⟨rfl,m,H0 (by omega) (by omega) (by omega) (by omega),HX.like ⟨rfl,rfl,rfl,rfl⟩⟩))
  rw[e]at nk
  by_cases h3:m.old<=a
  all_goals by_cases h4:q<=m.now
  all_goals
   go_enter func90,ntmps90;go_wp2;go_quiet (fail);go_wp2_with fail;all_goals first
    |(go_at_call 141;refine bt1 (HD (by omega) _ ?_) ?_;(exact HX.like ⟨rfl,rfl,rfl,rfl⟩);rintro ee u ⟨rfl,mz,hz,h2⟩;have HZ:=M0 hz;have H2:=M0 h2;clear hz h2;go_wp2;go_end0;exact⟨rfl,mz,HZ,H2⟩)
    |(go_at_call 142;refine bt1 (HN _ _ (by omega) (by omega) ?_) ?_;(exact HX.like ⟨rfl,rfl,rfl,rfl⟩);rintro ee u ⟨rfl,mz,hz,h2⟩;have HZ:=M0 hz;have H2:=M0 h2;clear hz h2;go_wp2;go_end0;exact⟨rfl,mz,HZ,H2⟩)
    |(go_quiet (fail)
      go_wp2_with fail
      all_goals first
       |(go_at_call 142;refine bt1 (HN _ _ (by omega) (by omega) ?_) ?_;(exact HX.like ⟨rfl,rfl,rfl,rfl⟩);rintro ee u ⟨rfl,mz,hz,h2⟩;have HZ:=M0 hz;have H2:=M0 h2;clear hz h2;go_wp2;go_end0;exact⟨rfl,mz,HZ,H2⟩)
       |(go_end0;exact⟨rfl,m,H0 (by omega) (by omega) (by omega) (by omega),HX.like ⟨rfl,rfl,rfl,rfl⟩⟩))
 by_cases h3:m.old<=a
 ·rcases hst with e|e|e
  ·rw[e]at nk
   go_enter func90,ntmps90;go_wp2;go_quiet (fail);go_wp2_with fail;all_goals first
    |(go_at_call 141;refine bt1 (HD (by omega) _ ?_) ?_;(exact HX.like ⟨rfl,rfl,rfl,rfl⟩);rintro ee u ⟨rfl,mz,hz,h2⟩;have HZ:=M0 hz;have H2:=M0 h2;clear hz h2;go_wp2;go_end0;exact⟨rfl,mz,HZ,H2⟩)
    |(go_at_call 142;refine bt1 (HN _ _ (by omega) (by omega) ?_) ?_;(exact HX.like ⟨rfl,rfl,rfl,rfl⟩);rintro ee u ⟨rfl,mz,hz,h2⟩;have HZ:=M0 hz;have H2:=M0 h2;clear hz h2;go_wp2;go_end0;exact⟨rfl,mz,HZ,H2⟩)
    |(go_quiet (fail)
      go_wp2_with fail
      all_goals first
       |(go_at_call 142;refine bt1 (HN _ _ (by omega) (by omega) ?_) ?_;(exact HX.like ⟨rfl,rfl,rfl,rfl⟩);rintro ee u ⟨rfl,mz,hz,h2⟩;have HZ:=M0 hz;have H2:=M0 h2;clear hz h2;go_wp2;go_end0;exact⟨rfl,mz,HZ,H2⟩)
       |(go_end0;exact⟨rfl,m,H0 (by omega) (by omega) (by omega) (by omega),HX.like ⟨rfl,rfl,rfl,rfl⟩⟩))
  all_goals
   rw[e]at nk
   by_cases h4:q<=m.now
   all_goals
    go_enter func90,ntmps90;go_wp2;go_quiet (fail);go_wp2_with fail;all_goals first
     |(go_at_call 141;refine bt1 (HD (by omega) _ ?_) ?_;(exact HX.like ⟨rfl,rfl,rfl,rfl⟩);rintro ee u ⟨rfl,mz,hz,h2⟩;have HZ:=M0 hz;have H2:=M0 h2;clear hz h2;go_wp2;go_end0;exact⟨rfl,mz,HZ,H2⟩)
     |(go_at_call 142;refine bt1 (HN _ _ (by omega) (by omega) ?_) ?_;(exact HX.like ⟨rfl,rfl,rfl,rfl⟩);rintro ee u ⟨rfl,mz,hz,h2⟩;have HZ:=M0 hz;have H2:=M0 h2;clear hz h2;go_wp2;go_end0;exact⟨rfl,mz,HZ,H2⟩)
     |(go_quiet (fail)
       go_wp2_with fail
       all_goals first
        |(go_at_call 142;refine bt1 (HN _ _ (by omega) (by omega) ?_) ?_;(exact HX.like ⟨rfl,rfl,rfl,rfl⟩);rintro ee u ⟨rfl,mz,hz,h2⟩;have HZ:=M0 hz;have H2:=M0 h2;clear hz h2;go_wp2;go_end0;exact⟨rfl,mz,HZ,H2⟩)
        |(go_end0;exact⟨rfl,m,H0 (by omega) (by omega) (by omega) (by omega),HX.like ⟨rfl,rfl,rfl,rfl⟩⟩))
 rcases hst with e|e|e
 ·rw[e]at nk
  go_enter func90,ntmps90;go_wp2;go_quiet (fail);go_wp2_with fail;all_goals first
   |(go_at_call 141;refine bt1 (HD (by omega) _ ?_) ?_;(exact HX.like ⟨rfl,rfl,rfl,rfl⟩);rintro ee u ⟨rfl,mz,hz,h2⟩;have HZ:=M0 hz;have H2:=M0 h2;clear hz h2;go_wp2;go_end0;exact⟨rfl,mz,HZ,H2⟩)
   |(go_at_call 142;refine bt1 (HN _ _ (by omega) (by omega) ?_) ?_;(exact HX.like ⟨rfl,rfl,rfl,rfl⟩);rintro ee u ⟨rfl,mz,hz,h2⟩;have HZ:=M0 hz;have H2:=M0 h2;clear hz h2;go_wp2;go_end0;exact⟨rfl,mz,HZ,H2⟩)
   |(go_quiet (fail)
     go_wp2_with fail
     all_goals first
      |(go_at_call 142;refine bt1 (HN _ _ (by omega) (by omega) ?_) ?_;(exact HX.like ⟨rfl,rfl,rfl,rfl⟩);rintro ee u ⟨rfl,mz,hz,h2⟩;have HZ:=M0 hz;have H2:=M0 h2;clear hz h2;go_wp2;go_end0;exact⟨rfl,mz,HZ,H2⟩)
      |(go_end0;exact⟨rfl,m,H0 (by omega) (by omega) (by omega) (by omega),HX.like ⟨rfl,rfl,rfl,rfl⟩⟩))
 all_goals
  rw[e]at nk
  by_cases h4:q<=m.now
  all_goals
   go_enter func90,ntmps90;go_wp2;go_quiet (fail);go_wp2_with fail;all_goals first
    |(go_at_call 141;refine bt1 (HD (by omega) _ ?_) ?_;(exact HX.like ⟨rfl,rfl,rfl,rfl⟩);rintro ee u ⟨rfl,mz,hz,h2⟩;have HZ:=M0 hz;have H2:=M0 h2;clear hz h2;go_wp2;go_end0;exact⟨rfl,mz,HZ,H2⟩)
    |(go_at_call 142;refine bt1 (HN _ _ (by omega) (by omega) ?_) ?_;(exact HX.like ⟨rfl,rfl,rfl,rfl⟩);rintro ee u ⟨rfl,mz,hz,h2⟩;have HZ:=M0 hz;have H2:=M0 h2;clear hz h2;go_wp2;go_end0;exact⟨rfl,mz,HZ,H2⟩)
    |(go_quiet (fail)
      go_wp2_with fail
      all_goals first
       |(go_at_call 142;refine bt1 (HN _ _ (by omega) (by omega) ?_) ?_;(exact HX.like ⟨rfl,rfl,rfl,rfl⟩);rintro ee u ⟨rfl,mz,hz,h2⟩;have HZ:=M0 hz;have H2:=M0 h2;clear hz h2;go_wp2;go_end0;exact⟨rfl,mz,HZ,H2⟩)
       |(go_end0;exact⟨rfl,m,H0 (by omega) (by omega) (by omega) (by omega),HX.like ⟨rfl,rfl,rfl,rfl⟩⟩))
end Js
end Go.Proofs.YtdgacidndknceaaGreatDoor
