import Derived.Test.YtnbaacgmlbhhcaaGreatDoorMg33
import Derived.Test.YtnbaacgmlbhhcaaGreatDoorMg41
set_option linter.all false
set_option maxHeartbeats 8000000
set_option maxRecDepth 10000
open Go.ChangeShapes Go.WideShapes Go.ChangeAt Go.RowKit
open Go.Proofs.Tryz
namespace Go.Proofs.YtnbaacgmlbhhcaaGreatDoor
namespace Nr
open Bs Nu
open oh (Nb tu)
variable{w0 w w' u u':World}{P:Nat->Prop}{G b:Nat}{cs:XV}{l l':Lr}{d d':Sd}{s s' z:S}{x x':X}{v v' lv:Value}
def ay0{o:XV}{t:TypeId}(a:Below (w.alloc (.cells o t)).heap.size (w.alloc (.cells o t)) u):Kn u w.heap.size o:=lT ((a.block w.heap.size (by simp)).trans (ah w _))
abbrev ap5(fr:XB)(a b c d e f a' b' c' d' e' f':UInt8)(ty k:Int)(ld:XB):Prop:=∀u,C_ 65 #[.string fr] u (.tuple #[.agg (Ce a b c d e f a' b' c' d' e' f' ty ld),E4 k]) (y_ u)
def QV{a b c d e f a' y c' d' z B:UInt8}{ty k j:Int}{t U:XB}{p:Ap}{D:S}
  (Z:ap5 U a b c d e f a' y c' d' z B ty k t)
  (HR:∀u,C_ 66 #[.string t] u (.tuple #[.agg p.c,E4 j]) (y_ u))
  (X:Rs 67 [.agg p.c] s (.tuple #[]) D) (A:k=0/\s.MR a b c d e f=true->ty≠2048):
  Rs 44 [.string U] s (.tuple #[]) (if k=0/\s.MR a b c d e f=true then(if ty=2054 then(if j=0 then D else s)else s)else s):=by
 intro w0 P w G l x h;have r:=h.m.k;have Q1:=fun u=>qZ a b c d e f s.k0 s.k1 s.k2 s.k3 s.k4 s.k5 u;have Q2:∀u,(Op.equalIn 10000 26 (.agg (rM a.toNat b.toNat c.toNat d.toNat e.toNat f.toNat)) (.agg (rM 255 255 255 255 255 255))).run prog u=.ok (pG a b c d e f 255 255 255 255 255 255) u:=fun u=>qZ a b c d e f 255 255 255 255 255 255 u;have W:s.MR a b c d e f=(pG a b c d e f s.k0 s.k1 s.k2 s.k3 s.k4 s.k5||pG a b c d e f 255 255 255 255 255 255):=rfl;generalize pG a b c d e f s.k0 s.k1 s.k2 s.k3 s.k4 s.k5=m1 at*;generalize pG a b c d e f 255 255 255 255 255 255=m2 at*;rw[W]at A ⊢;clear W;obtain⟨Y,g⟩:=ex_ ((if k=0/\(m1||m2)=true then(if ty=2054 then(if j=0 then D else s)else s)else s));rw[<-g];have ways:Y=s/\((k !=0)=true∨(k !=0)=false/\(m1=false/\m2=false∨(m1=true∨m1=false/\m2=true)/\(ty !=2048)=true/\((ty==2054)=false∨(ty==2054)=true/\(j==0)=false)))∨Y=D/\(k !=0)=false/\(m1=true∨m1=false/\m2=true)/\(ty !=2048)=true/\(ty==2054)=true/\(j==0)=true:=by
  rw[g]
  by_cases q:k=0
  ·rw[q]at A ⊢
   by_cases N:(m1||m2)=true
   ·have O:=A ⟨rfl,N⟩
    rw[aB ⟨rfl,N⟩];have I:m1=true∨m1=false/\m2=true:=by cases m1<;>cases m2<;>simp_all
    by_cases v:ty=2054
    ·rw[aB v]
     by_cases C:j=0
     ·exact aF ⟨aB C,rfl,I,dN.2 O,bK.2 v,bK.2 C⟩
     exact aG ⟨az C,aF ⟨rfl,aF ⟨I,dN.2 O,aF ⟨bK.2 v,aP.2 C⟩⟩⟩⟩
    exact aG ⟨az v,aF ⟨rfl,aF ⟨I,dN.2 O,aG (aP.2 v)⟩⟩⟩
   refine aG ⟨az fun q=>N q.2,aF ⟨rfl,aG ?_⟩⟩
   cases m1<;>cases m2<;>simp_all
  exact aG ⟨az fun e=>q e.1,aG (dN.2 q)⟩
 clear g A;have H:=ll h
 rcases ways with⟨g,R|⟨R,⟨rfl,rfl⟩|⟨rfl|⟨rfl,rfl⟩,e2,T|⟨T,e4⟩⟩⟩⟩|⟨g,R,rfl|⟨rfl,rfl⟩,e2,T,e4⟩
 all_goals
   as_aux_lemma=>
  replace g:=ll g
  go_enter func44,ntmps44;go_wp2_with (go_at_call 65;refine on_ (Z _) fun u1 L=> ?_;have i:=h.m.below L;have r1:=i.k;obtain⟨g1,g2⟩:=i.ra;have g3:0<u1.heap.size:=g2 0);go_quiet (fail);have h2:=ll (Mv.dn (n:=nq) (i.al (o:=.cells (Ce a b c d e f a' y c' d' z B ty t) 111)).base);have E:Hid (∀ {u cs1 l1 d1},Mv (u1.alloc (.cells (Ce a b c d e f a' y c' d' z B ty t) 111)) (lI G l) u G cs1 l1 d1->Kn u u1.heap.size (Ce a b c d e f a' y c' d' z B ty t)):=ll (fun h'=>lT ((h'.kept u1.heap.size (by simp) (i.out 0).1).trans (ah u1 _)));go_wp2_with (first|(go_at_call 66;refine on_ (HR _) fun u3 M=> ?_;have F:=h2.out.below M;have r3:=F.k;have b3:=E.out F;have J:=F.al (o:=.cells p.c 115);have b4:=E.out J)|(go_at_call 67;refine vC X ⟨J,H.out.iv⟩ fun u5 l5 x5 e5 V r5=> ?_;have b5:=E.out V.m));refine aQ (bH rfl _ _ _) rfl ?_;first|exact⟨rfl,by rw[g.out];exact⟨l,x,⟨rfl,rfl⟩,i.al.dn,H.out.iv⟩⟩|exact⟨rfl,by rw[g.out];exact Rp.join i.al ⟨l,x,⟨rfl,rfl⟩,J,H.out.iv⟩⟩|exact⟨rfl,by rw[g.out];exact Rp.join i.al (V.p e5)⟩
end Nr
end Go.Proofs.YtnbaacgmlbhhcaaGreatDoor
