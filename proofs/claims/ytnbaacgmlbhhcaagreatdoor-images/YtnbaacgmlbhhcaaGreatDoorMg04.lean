import Derived.Test.YtnbaacgmlbhhcaaGreatDoorMg03
set_option linter.all false
set_option maxHeartbeats 4000000
set_option maxRecDepth 10000
open Go.ChangeShapes Go.WideShapes Go.ChangeAt Go.RowKit
open Go renaming World → kV
open Go.Proofs.Tryz
namespace Go.Proofs.YtnbaacgmlbhhcaaGreatDoor
namespace RW
open Bs Rd
open mR (nV rV blocks uk pX)
inductive Ry|e|a|i|u|d|t
def Ry.F:Ry->FuncId
 | .e=>138
 | .a=>206
 | .i=>208
 | .u=>210
 | .d=>251
 | .t=>258
def Ry.C:Ry->FuncId
 | .e=>159
 | .a=>242
 | .i=>246
 | .u=>250
 | .d=>275
 | .t=>286
def Ry.g:Ry->FuncId
 | .e=>139
 | .a=>207
 | .i=>209
 | .u=>211
 | .d=>252
 | .t=>259
def Ry.T:Ry->TypeId
 | .e=>111
 | .a=>115
 | .i=>120
 | .u=>98
 | .d=>127
 | .t=>133
def Ry.Z:Ry->XV
 | .e=> zD_
 | .a=> zA_
 | .i=> zI_
 | .u=> zG_
 | .d=> zE_
 | .t=> zT_
noncomputable def Ry.f:Ry->Func
 | .e=>f159
 | .a=>f242
 | .i=>f246
 | .u=>f250
 | .d=>f275
 | .t=>f286
def Ry.cp(v w:Value):Ry->XV
 | .u=> #[v,w]
 |_=> #[]
def Ry.hf(y:Ry):prog.funcs[y.C]?=some y.f/\y.f.body=f159.body/\y.f.ntmps=7/\y.f.results=#[]:=by cases y<;>exact⟨by kernel_rfl,by kernel_rfl,by kernel_rfl,by kernel_rfl⟩
def Ry.ld(y:Ry)(c:XV)(a:c.size=y.Z.size)(u:kV)(g:Nat)(h:u.heap[g]?=some (.cells c y.T (0,0))):(loadVar y.T (a_ g 0)).run prog u=.ok (.agg c) u:=by
 cases y
 ·exact iC u _ _ _ _ _ _ h underlying111 rfl (by rw[a];kernel_rfl)
 ·exact iC u _ _ _ _ _ _ h underlying115 rfl (by rw[a];kernel_rfl)
 ·exact iC u _ _ _ _ _ _ h underlying120 rfl (by rw[a];kernel_rfl)
 ·exact iC u _ _ _ _ _ _ h underlying98 rfl (by rw[a];kernel_rfl)
 ·exact iC u _ _ _ _ _ _ h underlying127 rfl (by rw[a];kernel_rfl)
 exact iC u _ _ _ _ _ _ h jk rfl (by rw[a];kernel_rfl)
variable{s:XB}{w:kV}{v1 v2:Value}
def aj0(y:Ry)(k:Int)
  (n:∀u B,mI u B s.data.toList->(∀b o,b<w.heap.size->u.cell? (a_ b o)=w.cell? (a_ b o))->D_ y.g (#[p_ B]++y.cp v1 v2) u fun ee w'=>ee=.panicked (mG k)/\u.grownBy w' (some B)):
  C_ y.F #[.string s,.func (.func y.g) #[] (y.cp v1 v2)] w (.tuple #[.agg y.Z,E4 k]) (y_ w):=by
 have A:=hmf_;have l:=ll n;have f:=ll (fun p u=>nV y.hf.1 y.hf.2.1 y.hf.2.2.1 y.hf.2.2.2 p 0 k [] u);have j:=ll (y.ld y.Z rfl);clear n
 cases y
 all_goals dsimp only[Ry.F,Ry.C,Ry.g,Ry.T,Ry.Z,Ry.cp]at l f j ⊢
 case' e=>go_enter_defers func138,ntmps138
 case' a=>go_enter_defers func206,ntmps206
 case' i=>go_enter_defers func208,ntmps208
 case' u=>go_enter_defers func210,ntmps210
 case' d=>go_enter_defers func251,ntmps251
 case' t=>go_enter_defers func258,ntmps258
 all_goals
  go_wp2_with fail;refine on_ (l _ _ (pX _ _ s (by simp)) (fun b o r=>b3_.cell (p:=(a_ b o)) r)) fun G m=>?_;obtain⟨v,c⟩:=blocks m rfl;refine kK (args:=#[p_ (w.heap.size+1)]) (by simp<;>rfl) (by simp[go_sem]<;>rfl) ?_;refine(f (m_ w 0) _ (bU c) (fG c)).mono ?_;rintro e D E ⟨rfl,rfl,rfl⟩;exact⟨_,Nh (p:=4) (q:=5) (by kernel_rfl) rfl rfl v c (fun u z=>j u _ z),rfl,(uk m b3_ (by omega)).setCell (by simp) _⟩
def ak4(y:Ry)(O:XV->kV->Prop)(H:∀c v M,O c v->(∀j,w.heap.size+3<=j->M.heap[j]?=v.heap[j]?)->O c M)
  (I:∀u B,mI u B s.data.toList->u.heap.size=w.heap.size+3->(∀b o,b<w.heap.size->u.cell? (a_ b o)=w.cell? (a_ b o))->D_ y.g (#[p_ B]++y.cp v1 v2) u fun ee w'=>(∃c,ee=.returned (.agg c)/\(c.size=y.Z.size/\c.all (·.oneCell')=true)/\O c w')/\u.grownBy w' (some B)):
  D_ y.F #[.string s,.func (.func y.g) #[] (y.cp v1 v2)] w fun ee w'=>∃c,ee=.returned (.tuple #[.agg c,E4 0])/\(c.size=y.Z.size/\c.all (·.oneCell')=true)/\O c w'/\y_ w w':=by
 have A:=hmf_;have D:=ll I;have r:=ll (fun p u=>rV y.hf.1 y.hf.2.1 y.hf.2.2.1 y.hf.2.2.2 p u);have z:=ll (fun c k=>y.ld c k);have U:=ll H;clear I H
 cases y
 all_goals dsimp only[Ry.F,Ry.C,Ry.g,Ry.T,Ry.cp]at D r z ⊢
 case' e=>go_enter_defers func138,ntmps138
 case' a=>go_enter_defers func206,ntmps206
 case' i=>go_enter_defers func208,ntmps208
 case' u=>go_enter_defers func210,ntmps210
 case' d=>go_enter_defers func251,ntmps251
 case' t=>go_enter_defers func258,ntmps258
 all_goals
  go_wp2_with fail;refine(D _ _ (pX _ _ s (by simp)) (by simp) (fun b o V=>b3_.cell (p:=(a_ b o)) V)).mono ?_;rintro ee N ⟨⟨c,rfl,k,J⟩,G⟩;obtain⟨L,n⟩:=blocks G rfl;have R:=ll (uk G b3_ (by omega));have X:=fun m=>bU ((gD N w.heap.size _ m (by omega)).trans n);have Y:=fun m=>fG ((gD N w.heap.size _ m (by omega)).trans n);have f:=ll k;have l:=ll J;clear k J;go_wp2_with (refine eH rfl _ (.tmp 4) (.tmp 11) rfl w.heap.size _ rfl rfl _ _ L (by rw[f.1];kernel_rfl) (by rw[f.1];rfl) f.2 ?_);refine kK (args:=#[p_ (w.heap.size+1)]) (by simp<;>rfl) (by simp[go_sem]<;>rfl) ?_;refine(r (m_ w 0) _).mono ?_;rintro e u' E ⟨rfl,rfl,rfl⟩;exact⟨_,Wh (p:=4) (q:=5) (by kernel_rfl) rfl rfl L n (fun u W=>z _ f.1 u _ W),_,rfl,f,U _ _ _ l (fun j hj=>by rw[aD _ (m_ w 0) _ _ (by show j≠w.heap.size+1;omega),gD _ _ _ _ (by omega)]),(zX R (ae _) _).setCell (by simp) _⟩
def ax4(y:Ry){c:XV}(l:c.size=y.Z.size/\c.all (·.oneCell')=true)
  (j:∀u B,mI u B s.data.toList->(∀b o,b<w.heap.size->u.cell? (a_ b o)=w.cell? (a_ b o))->C_ y.g (#[p_ B]++y.cp v1 v2) u (.agg c) fun w'=>u.grownBy w' (some B)):
  C_ y.F #[.string s,.func (.func y.g) #[] (y.cp v1 v2)] w (.tuple #[.agg c,E4 0]) (y_ w):=
 (ak4 y (fun a _=>a=c) (fun _ _ _ h _=>h) (fun u B h _ k=>(j u B h k).mono fun _ _ q=>⟨⟨c,q.1,l,rfl⟩,q.2⟩)).mono fun _ _ ⟨a,d,_,f,i⟩=>⟨by rw[d,f],i⟩
def Ry.W:Ry->FuncId
 | .e=>98
 | .a=>167
 | .i=>173
 | .u=>174
 | .d=>213
 | .t=>218
def aj3(y:Ry)(G:y≠ .u)(k:Int)(O:XV->kV->Prop)(o:∀c v C,O c v->(∀j,w.heap.size+1<=j->C.heap[j]?=v.heap[j]?)->O c C)
  (r:∀u:kV,u.heap.size=w.heap.size+1->D_ y.F #[.string s,.func (.func y.g) #[] #[]] u fun ee w'=>∃c,ee=.returned (.tuple #[.agg c,E4 k])/\(c.size=y.Z.size/\c.all (·.oneCell')=true)/\O c w'/\y_ u w'):
  D_ y.W #[.string s] w fun ee w'=>∃c,ee=.returned (.tuple #[.agg c,E4 k])/\O c w'/\y_ w w':=by
 have n:=ll r;have m:=ll (fun c f=>y.ld c f);have D:=ll o;clear r o
 cases y
 case u=>exact absurd rfl G
 all_goals dsimp only[Ry.F,Ry.g,Ry.T,Ry.W]at n m ⊢
 case' e=>go_enter func98,ntmps98
 case' a=>go_enter func167,ntmps167
 case' i=>go_enter func173,ntmps173
 case' d=>go_enter func213,ntmps213
 case' t=>go_enter func218,ntmps218
 all_goals
  go_wp2_with fail;refine(n _ (by simp)).mono ?_;rintro ee I ⟨c,rfl,f,A,z⟩;have B:=(z.block _ (by simp)).trans (ah w _);have b:=ll f;have l:=ll A;clear f A;go_wp2_with (refine eH rfl _ (.tmp 2) (.tmp 6) rfl w.heap.size _ rfl rfl _ _ B (by rw[b.1];kernel_rfl) (by rw[b.1];rfl) b.2 ?_);exact KA (p:=2) (q:=3) (by kernel_rfl) rfl rfl rfl B (fun u E=>m _ b.1 u _ E) (fun q=>⟨_,rfl,D _ _ _ l (fun j H=>gD _ _ _ _ (by omega)),q⟩) b1_ z (ae _)
def tJ(y:Ry)(a:y≠ .u)(k:Int)(i:∀u B,mI u B s.data.toList->D_ y.g #[p_ B] u fun ee w'=>ee=.panicked (mG k)/\u.grownBy w' (some B)):
  C_ y.W #[.string s] w (.tuple #[.agg y.Z,E4 k]) (y_ w):=by
 have e:y.cp .nilIface .nilIface=#[]:=by cases y<;>first|rfl|exact absurd rfl a
 refine(aj3 y a k (fun c _=>c=y.Z) (fun _ _ _ h _=>h) (fun u _=> ?_)).mono fun _ _ ⟨c,b,d,f⟩=>⟨by rw[b,d],f⟩;have q:=aj0 (w:=u) (s:=s) (v1:=.nilIface) (v2:=.nilIface) y k (fun u B h _=>by rw[e];exact i u B h);rw[e]at q;exact q.mono fun _ _ h=>⟨_,h.1,⟨rfl,by cases y<;>kernel_rfl⟩,rfl,h.2⟩
def ah9(y:Ry)(d:y≠ .u)(O:XV->kV->Prop)(b:∀c v a,O c v->(∀j,w.heap.size+4<=j->a.heap[j]?=v.heap[j]?)->O c a)
  (f:∀u B,mI u B s.data.toList->u.heap.size=w.heap.size+4->D_ y.g #[p_ B] u fun ee w'=>(∃c,ee=.returned (.agg c)/\(c.size=y.Z.size/\c.all (·.oneCell')=true)/\O c w')/\u.grownBy w' (some B)):
  D_ y.W #[.string s] w fun ee w'=>∃c,ee=.returned (.tuple #[.agg c,E4 0])/\O c w'/\y_ w w':=by
 have e:y.cp .nilIface .nilIface=#[]:=by cases y<;>first|rfl|exact absurd rfl d
 refine aj3 y d 0 O (fun c v a h q=>b c v a h fun j i=>q j (by omega)) (fun u l=> ?_);have q:=ak4 (w:=u) (s:=s) (v1:=.nilIface) (v2:=.nilIface) y O (fun c v a h q=>b c v a h fun j i=>q j (by omega)) (fun k B h m _=>by rw[e];exact f k B h (by omega));rw[e]at q;exact q
def WO(y:Ry)(j:y≠ .u){c:XV}(k:c.size=y.Z.size/\c.all (·.oneCell')=true)(i:∀u B,mI u B s.data.toList->C_ y.g #[p_ B] u (.agg c) fun w'=>u.grownBy w' (some B)):
  C_ y.W #[.string s] w (.tuple #[.agg c,E4 0]) (y_ w):=
 (ah9 y j (fun a _=>a=c) (fun _ _ _ h _=>h) (fun u B h _=>(i u B h).mono fun _ _ q=>⟨⟨c,q.1,k,rfl⟩,q.2⟩)).mono fun _ _ ⟨a,b,d,f⟩=>⟨by rw[b,d],f⟩
def VD(y:Ry)(l:y≠ .u){mk:XO->Nat->XV}{T n:Nat}{xs:XL}(m:∀a c,(mk a c).size=y.Z.size/\(mk a c).all (·.oneCell')=true)
  (f:∀u B,mI u B s.data.toList->D_ y.g #[p_ B] u fun ee w'=>(∃b d,ee=.returned (.agg (mk b d))/\w'.ownsRow u.heap.size T 2 (.slice b n d) n xs)/\u.grownBy w' (some B)):
  D_ y.W #[.string s] w fun ee w'=>∃b d,ee=.returned (.tuple #[.agg (mk b d),E4 0])/\w'.ownsRow w.heap.size T 2 (.slice b n d) n xs/\y_ w w':=by
 refine(ah9 y l (fun c v=>∃b d,c=mk b d/\v.ownsRow (w.heap.size+4) T 2 (.slice b n d) n xs) ?_ (fun u B h A=>(f u B h).mono ?_)).mono ?_
 ·rintro c v o ⟨b,d,rfl,h⟩ q
  exact⟨b,d,rfl,h.1,h.2.imp id fun⟨k,cap,cur,e1,e2,e3,r⟩=>⟨k,cap,cur,e1,e2,(q k e2).trans e3,r⟩⟩
 ·rintro _ w' ⟨⟨b,d,rfl,h⟩,j⟩
  exact⟨⟨_,rfl,m b d,b,d,rfl,by rw[<-A];exact h⟩,j⟩
 rintro _ w' ⟨_,rfl,⟨b,d,rfl,h⟩,i⟩;exact⟨b,d,rfl,⟨h.1,h.2.imp id fun⟨k,cap,cur,e1,e2,r⟩=>⟨k,cap,cur,e1,by omega,r⟩⟩,i⟩
end RW
end Go.Proofs.YtnbaacgmlbhhcaaGreatDoor
