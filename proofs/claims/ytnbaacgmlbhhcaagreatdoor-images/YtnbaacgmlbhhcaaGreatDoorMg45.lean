import Derived.Test.YtnbaacgmlbhhcaaGreatDoorMg22
import Derived.Test.YtnbaacgmlbhhcaaGreatDoorMg28
import Derived.Test.YtnbaacgmlbhhcaaGreatDoorMg29
import Derived.Test.YtnbaacgmlbhhcaaGreatDoorMg35
import Derived.Test.YtnbaacgmlbhhcaaGreatDoorMg43
import Derived.Laws.Cover3
import Derived.Stop.BytesEq
set_option linter.all false
set_option maxHeartbeats 16000000
set_option maxRecDepth 20000
open Go.ChangeShapes Go.WideShapes Go.ChangeAt Go.RowKit
open Go renaming World → kV
open Go.Proofs.Tryz renaming prog → aD1
open Go.Proofs.Tryz
namespace Go.Proofs.YtnbaacgmlbhhcaaGreatDoor
namespace Nu
open Bs
variable{w0 w w' x y:kV}{P:Nat->Prop}{B:Nat}{cs:XV}{l l':Lc}{d d':Sd}{s s':S}{v v':Value}{fs:Tf.mW}
def Iq:∀(fs:Tf.mW) (i:Nat) (h:i<fs.length),(Tf.mQ fs)[i*2]?=some (.string ⟨fs[i].1.toArray⟩)/\(Tf.mQ fs)[i*2+1]?=some (.string ⟨fs[i].2.toArray⟩)
 |[],i,h=>absurd h (fq _)
 |f::fs,0,_=>⟨rfl,rfl⟩
 |f::fs,i+1,h=>by
  have q:=Iq fs i (by simpa using h);rw[show(i+1)*2=i*2+2 by omega];exact q
abbrev Fr(bb:Nat)(sa:XO)(n sc:Nat)(fs:Tf.mW)(u:kV):Prop:=u.ownsRow bb 155 2 (.slice sa n sc) n (Tf.mQ fs)
def av4{b n r:Nat}{a:XO}(B:n=fs.length)(h:Fr b a n r fs w){i:Nat}(A:i<n):∃g f,a=some (a_ g 0)/\w.cell? (a_ g (i*2))=some (.string ⟨f.1.toArray⟩)/\w.cell? (a_ g (i*2+1))=some (.string ⟨f.2.toArray⟩)/\f ∈ fs/\fs.drop i=f::fs.drop (i+1):=by
 rcases h.2 with⟨_,z⟩|⟨g,d,k,l,s,m,t,v,y,o⟩
 ·omega
 injection l with a1 a2 a3
 have q:=Iq fs i (by omega);have c:∀j,j<n*2->w.cell? (a_ g j)=(Tf.mQ fs)[j]?:=fun j p=>by
  rw[af w _ _ _ _ _ m,<-o,dR p,bP]
 exact⟨g,fs[i]'(by omega),a1,(c _ (by omega)).trans q.1,(c _ (by omega)).trans q.2,dw _,bV (by omega)⟩
noncomputable def S.qc (pt:Int):Tf.mW->S->S
 |[],s=>(s.uK pt).answer
 |f::r,s=>if s.Kl ⟨f.1.toArray⟩ ⟨f.2.toArray⟩=0 then S.qc pt r (s.Ef ⟨f.1.toArray⟩ ⟨f.2.toArray⟩)else(s.Ef ⟨f.1.toArray⟩ ⟨f.2.toArray⟩).giveUp pt (s.Kl ⟨f.1.toArray⟩ ⟨f.2.toArray⟩)
noncomputable def S.opt (s:S) (pt:Int) (fs:Tf.mW):S:=if s.phase=1 then S.qc pt fs s else s
def V_(s:S)(b n:Int)(d v:XB):∃a c,S.Ef {s with nK:=b,oL:=n} d v={s with nK:=a,oL:=c}:=by
 unfold S.Ef
 split
 ·exact⟨b,n,rfl⟩
 exact⟨_,_,rfl⟩
def ao8(s:S)(a v:XB):0<=s.Kl a v/\s.Kl a v<=65535:=by
 unfold S.Kl;repeat' split
 all_goals decide
def D9(o:s.Ok)(hp:0<=s.port/\s.port<=65535)(p:Lt)(E:0<=p.pt/\p.pt<=65535)(C:p.n=fs.length)(y:∀f ∈ fs,f.2.length<=1048576)(bb:Nat):
  Does (fun B l u=>Fr bb p.sa p.n p.sc fs u/\∀k,lI B l k->k<bb) 261 (.agg p.c) s (s.opt p.pt fs):=by
 intro w0 P w B l h v;obtain⟨W,G,X,b,D,n,F,d⟩:=p;dsimp only at E C v ⊢;have r:=h.k;unfold S.opt
 by_cases e:s.phase=1
 case neg=>
  have e':(s.phase==1)=false:=by simpa using e
  rw[az e];clear e;go_enter func261,ntmps261;go_wp2;go_returns
  exact⟨rfl,l,h.al⟩
 have e':(s.phase==1)=true:=by simpa using e
 have M:(s.phase !=1)=false:=by simpa using e
 rw[aB e];clear e;have hn0:(n:Int)<=9223372036854775807:=by
  rcases v.1.2 with⟨_,N⟩|⟨g,cap,cur,e1,e2,e3,e4,e5,e6,e7⟩
  ·omega
  unfold maxLen at e5;omega
 have H:=(h.al (o:=.cells (Lt.c ⟨W,G,X,b,D,n,F,d⟩) 267)).base;have hx:∀ {u z l'},Mx (w.alloc (.cells (Lt.c ⟨W,G,X,b,D,n,F,d⟩) 267)) (lI B l) u B l' z->Cl u w.heap.size (Lt.c ⟨W,G,X,b,D,n,F,d⟩):=fun h'=>(bx (ah w _) (h.out 0).1 h').1;obtain⟨Y,T⟩:=ex_ (S.qc d fs s);rw[<-T];replace C:=ll C
 replace y:=ll y
 replace T:=ll T
 replace v:=ll v
 go_enter func261,ntmps261;go_wp2;go_loopw [16] (fun i wr=>∃(k:Nat) (m q:Int),i=E4 k/\k<=n/\Hid (Y=S.qc d (fs.drop k) {s with nK:=m,oL:=q})/\Hid (Mx (w.alloc (.cells (Lt.c ⟨W,G,X,b,D,n,F,d⟩) 267)) (lI B l) wr B l {s with nK:=m,oL:=q})/\Hid (Fr bb D n F fs wr)) (fun i _=>n-(intOf i).toNat)
 case atStart=>exact⟨0,s.nK,s.oL,rfl,aR _,T,ll H,ll (v.out.1.alloc _)⟩
 clear r;obtain⟨k,m,q,rfl,hk,a,HM,HF⟩:=hrel;have t:=HM.out;have R:=HF.out;have c:=hx t;have r:=t.k
 by_cases hkk:k<n
 ·obtain⟨g,f,rfl,c0,c1,hm,I⟩:=av4 C.out R hkk
  obtain⟨b2,n2,A⟩:=V_ s m q ⟨f.1.toArray⟩ ⟨f.2.toArray⟩;have U:(k:Int)<n:=by omega
  have hA:=TA (t.al (o:=.cells #[.string ⟨f.1.toArray⟩,.string ⟨f.2.toArray⟩] 155)).base ⟨f.1.toArray⟩ ⟨f.2.toArray⟩ (by rw[strSize];exact y.out f hm);have hc:=ao8 {s with nK:=m,oL:=q} ⟨f.1.toArray⟩ ⟨f.2.toArray⟩;rw[A]at hA;replace a:=a.out
  rw[I,S.qc,A]at a;generalize S.Kl {s with nK:=m,oL:=q} ⟨f.1.toArray⟩ ⟨f.2.toArray⟩=ec at*;have Z:= @Aq {s with nK:=b2,oL:=n2} o hp d ec E hc;clear A I hm hc
  by_cases L:ec=0
  ·subst L
   rw[aB rfl]at a;replace a:=ll a
   clear Z;go_wp2_with (go_at_call 290;refine on_ hA fun u V=> ?_);go_roundw
   case rel=>exact⟨k+1,b2,n2,by go_num,by omega,a,ll (t.al.join V),ll (lJ (R.alloc _) (fun j hj=>V.kept j ((R.alloc _).lt j hj).2 (fun y=>by have:=v.out.2 j y;have:=(R.lt j hj).1;omega)))⟩
   simp[intOf];omega
  rw[az L]at a;have O:(ec==0)=false:=by simpa using L
  rw[<-a]at Z;replace a:=ll a
  clear L;go_wp2_with (first|(go_at_call 290;refine on_ hA fun u V=> ?_;have J:=t.al.join V;have cu:=hx J)|(go_at_call 291;refine qC Z J fun u2 l2 N r2=> ?_));go_returns
  exact⟨rfl,l2,h.al.join N⟩
 have ek:k=n:=by omega
 replace a:=a.out
 rw[ek,C.out,List.drop_length,S.qc]at a;have HA:= @yt {s with nK:=m,oL:=q,phase:=2,oJ:=d} o hp E;have HL:=fun {w0 P w B l} h=> @yw {s with nK:=m,oL:=q} d w0 P w B l h;rw[<-show Y=S.answer {s with nK:=m,oL:=q,phase:=2,oJ:=d}from a]at HA;replace a:=ll a
 replace ek:=ll ek
 go_wp2_with (first|(go_at_call 292;refine qC HL t fun u1 l1 h1 r1=> ?_)|(go_at_call 293;refine qC HA h1 fun u2 l2 N r2=> ?_));go_end0;exact⟨rfl,l2,h.al.join N⟩
end Nu
namespace Nu
open Bs
def zq{P:Program}{f:Region.Mode}{b:Array Oper}{Q:Exit->Act->kV->Prop}{S S':kV->Prop}(d:∀w,S' w->S w):∀(fuel:Nat) (listed:Array Bool) (a:Act) (w:kV),wpAnyH P f b Q S' fuel listed a w->wpAnyH P f b Q S fuel listed a w
 |0,_,_,_,h=>h
 |fuel+1,_,_,_,h=>⟨h.1,fun i g=>wpOp_mono (fun a' w' c=>⟨d _ c.1,zq d fuel _ a' w' c.2⟩) (h.2 i g)⟩
variable{w0:kV}{P:Nat->Prop}{w w' x y:kV}{B:Nat}{cs:XV}{l l':Lc}{d d':Sd}{s s':S}{v v':Value}{D:XU}{g:Nat}
def Zy(D:XU)(g:Nat)(u:kV):Prop:=∀j,j<32->u.cell? (a_ g j)=some (E8 (D.getD j 0).toNat)
def Zy.below(h:Zy D g w)(b:y_ w w'):Zy D g w':=fun j a=>by rw[<-h j a];exact b.cell (p:=(a_ g j)) (Dh.pV (h j a))
def Zy.new{a:XB}(d:a.size=32)(b:a.data.toList=D):Zy D w.heap.size (Lib.bytesWorld w 5 a):=fun j c=>by rw[Lib.bytesWorld_cell w _ a j (by omega),b]
def VE(c:D.length=32)(h:Zy D g w):(Instr.loadAt 355 (p_ g)).run aD1 w=.ok (.agg (lC D).toArray) w:=by
 have E:(lC D).length=32:=by unfold lC;rw[eu,c]
 have a:(loadCells (a_ g 0) (lC D).length).run aD1 w=.ok (lC D).toArray w:=
  run_loadCells_list (P:=aD1) w (a_ g 0) (lC D) (fun j v b=>by
   have d:j<32:=by
    have:=(cB.1 b).1
    omega
   rw[nz,h j d,<-b]
   unfold lC
   rw[dY,aN (by omega)]
   simp[List.getD,aN (show j<D.length by omega)])
 rw[E]at a;have A:(isAgg 355).run aD1 w=.ok true w:=by
  unfold isAgg;rw[fQ,gB jL w];rfl
 have I:(sizeOf 355).run aD1 w=.ok 32 w:=by kernel_rfl
 simp only[Instr.loadAt,Instr.sureAddr,loadVar,fQ,iN,Result.andThen,A,I,fE,bI,a]
def IU{P:Program}{w:kV}{ρ:Operand->Value}{o:Oper}(t:TypeId)(a:Operand)(p:Value)(b:o.op=.load t a)(c:ρ a=p)(v:Value)(h:(Instr.loadAt t p).run P w=.ok v w):(execOp ρ o).run P w=.ok (.value v) w:=by
 unfold execOp;simp only[b];rw[c];simp only[fQ,h,fE,iN]
def S.done(c:Bool)(s:S):S:=if c=true then {s with phase:=3,port:=0,oJ:=0,nK:=0,oL:=0,since:=0,pU:=0,sF:=0,sT:=0,sL:=⟨#[]⟩,fs:=0,fu:=0}else {s with phase:=3}
def S.fin(c:Bool)(s:S):S:=if(Hs.wh Hs.kN s.im==s.mJ.data.toList)=true then s.done c else s.fail
def OZ(C:s.im.length<=1048576)(o:s.mJ.size=32):Ms 312 [] s (.tuple #[]) (s.fin true):=by
 intro w0 P w B l h;obtain⟨D,n⟩:=ex_ (Hs.wh Hs.kN s.im);have U:D.length=32:=by rw[n];exact Hs.wH _ _
 have E:s.mJ.data.toList.length=32:=by rw[mg];exact o
 have y:∀ {u},Mx w0 P u B l s->C_ 326 #[.string ⟨s.im.toArray⟩] u (.agg (lC D).toArray) (y_ u):=fun {u} p=>by
  have q:=Hs.oF ⟨s.im.toArray⟩ s.im Hs.kN u rfl C p.gw.rg Hs.aj1;rw[Hs.RP,<-n]at q;exact q
 have M:∀u:kV,(binOp .neq 355 (.agg (lC D).toArray) (.agg (lC s.mJ.data.toList).toArray)).run aD1 u=.ok (.bool !(D==s.mJ.data.toList)) u:=fun u=>by
  have q:=run_equalIn_bytes (P:=aD1) u 9998 355 5 32 jL dW (fun w=>by kernel_rfl) D s.mJ.data.toList U E;rw[show(lC D).toArray=(D.map Extern.Stop.cell).toArray from rfl,show(lC s.mJ.data.toList).toArray=(s.mJ.data.toList.map Extern.Stop.cell).toArray from rfl,run_neq_struct,q];rfl
 unfold S.fin;rw[<-n];clear n;have O:∀u:kV,Mx w0 P u B l s->(convert 55 9 l.img).run aD1 u=.ok (.string ⟨s.im.toArray⟩) u:=fun u p=>oG u 0 l.img s.im p.image;have J:∀u:kV,(convert 9 55 (.string s.mJ)).run aD1 u=.ok (.slice (some (n_ u 0)) 32 (grownCap u 32 0 5)) (Lib.bytesWorld u 5 s.mJ):=fun u=>by
  have q:=Lib.run_convert_string_bytes (P:=aD1) u 9 55 5 s.mJ dB bQ dW;rw[o]at q;exact q
 have I:∀(c g:Nat) (u:kV),(Instr.arrayAt 355 (.slice (some (a_ g 0)) 32 c)).run aD1 u=.ok (p_ g) u:=fun c g u=>run_arrayAt (P:=aD1) u 355 5 32 (some (a_ g 0)) 32 c jL (ae _);generalize hb:(D==s.mJ.data.toList)=b at*;clear hb;go_enter func312,ntmps312;go_wp2_with fail;go_cut [16] (fun z wc=>z=.bool (!b)/\Mx w0 P wc B l s);case first=>
  refine wp_region_held_drew (S:=fun u=>Mx w0 P u B l s) (by kernel_rfl) h.dr (fun hHeld=> ?_);change Vn [0,1,2,3,4,6,7,8,9,10] _;iterate 10
   refine tkm rfl (by kernel_rfl) (fun _ _ _ h=>h) (by intro d A;have r:=A.k;have q:=O d A;go_simp<;>with_reducible rfl) hHeld ?_;try simp only[Act.put,aj,aA,ay]
  refine wpAnyH_ready (rs:=[5,11]) (by kernel_rfl) (by simp) ?_;refine AllReadyH.cons rfl (fun K hK=> ?_) (AllReadyH.cons rfl (fun K hK=> ?_) AllReadyH.nil)
  ·go_simp
   refine on_ (y hHeld) fun u2 a=> ?_;have f:=hHeld.below a;go_wp2_with fail;clear hHeld;refine hK.out _ _ f (fun hHeld=> ?_);clear hK K;try simp only[Act.put,aj,aA,ay]
   refine wpAnyH_ready (rs:=[11]) (by kernel_rfl) (by simp) ?_;refine AllReadyH.cons rfl (fun K hK=> ?_) AllReadyH.nil;have q:=J u2;go_simp
   have j:=f.below (Lib.bytesWorld_below u2 5 s.mJ);have m:Zy s.mJ.data.toList u2.heap.size (Lib.bytesWorld u2 5 s.mJ):=.new o rfl;clear hHeld;refine hK.out _ _ j (fun hHeld=> ?_);clear hK K;try simp only[Act.put,aj,aA,ay]
   refine tkH_ (i:=12) (v:=_) rfl (by kernel_rfl) (fun _ _ _ h=>h) (aG ⟨by rfl,by intro d A;have q:=I;go_simp<;>with_reducible rfl⟩) hHeld ?_;try simp only[Act.put,aj,aA,ay]
   refine zq (S':=fun u=>Mx w0 P u B l s/\Zy s.mJ.data.toList u2.heap.size u) (fun _ h=>h.1) _ _ _ _ ?_;replace hHeld:_/\_:=⟨hHeld,m⟩
   refine tkH_ (i:=13) (v:=_) rfl (by kernel_rfl) (fun _ _ _ h=>h) (aG ⟨by rfl,by intro d A;exact IU _ _ _ rfl (by first|kernel_rfl|go_simp) _ (VE E A.2)⟩) hHeld ?_;try simp only[Act.put,aj,aA,ay]
   refine tkH_ (i:=14) (v:=_) rfl (by kernel_rfl) (fun _ _ _ h=>h) (aG ⟨by rfl,by intro d A;have q:=M d;go_simp<;>with_reducible rfl⟩) hHeld ?_;simp only[Act.put,List.getElem_toArray,gJ,fO,aj,aA,ay];refine wpAnyH_done (by kernel_rfl) ?_ _;go_wp2;go_meet;exact⟨rfl,j⟩
  have q:=J w.drew;go_simp
  have j:=h.dr.below (Lib.bytesWorld_below w.drew 5 s.mJ);have m:Zy s.mJ.data.toList w.drew.heap.size (Lib.bytesWorld w.drew 5 s.mJ):=.new o rfl;clear hHeld;refine hK.out _ _ j (fun hHeld=> ?_);clear hK K;try simp only[Act.put,aj,aA,ay]
  refine tkH_ (i:=12) (v:=_) rfl (by kernel_rfl) (fun _ _ _ h=>h) (aG ⟨by rfl,by intro d A;have q:=I;go_simp<;>with_reducible rfl⟩) hHeld ?_;try simp only[Act.put,aj,aA,ay]
  refine zq (S':=fun u=>Mx w0 P u B l s/\Zy s.mJ.data.toList w.drew.heap.size u) (fun _ h=>h.1) _ _ _ _ ?_;replace hHeld:_/\_:=⟨hHeld,m⟩
  refine tkH_ (i:=13) (v:=_) rfl (by kernel_rfl) (fun _ _ _ h=>h) (aG ⟨by rfl,by intro d A;exact IU _ _ _ rfl (by first|kernel_rfl|go_simp) _ (VE E A.2)⟩) hHeld ?_;try simp only[Act.put,aj,aA,ay]
  refine wpAnyH_ready (rs:=[5]) (by kernel_rfl) (by simp) ?_;refine AllReadyH.cons rfl (fun K hK=> ?_) AllReadyH.nil;go_simp
  refine on_ (y j) fun u2 a=> ?_;have f:=j.below a;go_wp2_with fail;clear hHeld;refine hK.out _ _ ⟨f,m.below a⟩ (fun hHeld=> ?_);clear hK K;try simp only[Act.put,aj,aA,ay]
  refine tkH_ (i:=14) (v:=_) rfl (by kernel_rfl) (fun _ _ _ h=>h) (aG ⟨by rfl,by intro d A;have q:=M d;go_simp<;>with_reducible rfl⟩) hHeld ?_;simp only[Act.put,List.getElem_toArray,gJ,fO,aj,aA,ay];refine wpAnyH_done (by kernel_rfl) ?_ _;go_wp2;go_meet;exact⟨rfl,f⟩
 rename kV=>x;obtain⟨rfl,t⟩:=hcut;have r:=t.k
 cases b
 ·go_wp2_with (go_at_call 122;refine qC oQ t fun u2 F f G=> ?_)
  go_returns
  exact⟨rfl,F,f⟩
 go_wp2;go_end0;refine⟨rfl,l,?_⟩;show Mx w0 P _ B l {s with phase:=3,port:=0,oJ:=0,nK:=0,oL:=0,since:=0,pU:=0,sF:=0,sT:=0,sL:=⟨#[]⟩,fs:=0,fu:=0};exact Mw.x (by repeat with_reducible first|apply Mw.st|exact t) (by kernel_rfl) rfl
end Nu
namespace Nu
open Bs
variable{w0 w w' x y:kV}{P:Nat->Prop}{B Q:Nat}{cs:XV}{l l':Lc}{d d':Sd}{s s':S}{v v':Value}{fs:Tf.mW}
def Mw.zS(h:Mw w0 P w B cs l d){k:Nat}(b:l.img.ownBlock=some k):∃a,w.heap[k]?=some (.cells a 5 (0,0)):=by
 rcases h.image.2 with⟨j,_⟩|⟨g,c,a,f,m,i,n⟩
 ·rw[j]at b;cases b
 rw[f]at b;have:g=k:=aV b;subst this;exact⟨a,i⟩
def M8{g n f k:Nat}{q:List XB}{a:XV}(h:mZ w g n f q)(c:w.heap[k]?=some (.cells a 5 (0,0))):k≠g:=by
 rintro rfl;obtain⟨_,_,_,_,A,b,_⟩:=h;rw[c]at b;simp only[aZ,di]at b;exact absurd b.2.1 (by decide)
def Mw.im(h:Mw w0 P w B cs l d){L:XU}(i:w.grownBy w' l.img.ownBlock)(o:w'.ownsRow 0 5 1 v L.length (lC L))(A:v.ownBlock=l.img.ownBlock∨∀g,v.ownBlock=some g->w.heap.size<=g):Mw w0 P w' B cs {l with img:=v} {d with im:=L}:=by
 have b:∀k,k<w.heap.size->l.img.ownBlock≠some k->w'.heap[k]?=w.heap[k]?:=fun k a n=>i.block k a (fun e=>n e.symm);have m:∀k,l.img.ownBlock=some k->P k∨w0.heap.size<=k:=fun k a=>h.own k (aF (aF (aF (aF a))));exact
 {h with os:=i.os.trans h.os,tape:=i.tape.trans h.tape,output:=i.output.trans h.output,size:=aJ h.size i.size,
           kept:=fun k a j=>(b k (aW a h.size) (fun e=>by
             rcases m k e with q|q
             · exact j q
             omega)).trans (h.kept k a j),
           own:=fun k a=>by
             rcases a with rfl|rfl|rfl|rfl|a
             · exact h.own _ (aG rfl)
             · exact h.own _ (aF (aG rfl))
             · exact h.own _ (aF (aF (aG rfl)))
             · exact h.own _ (aF (aF (aF (aG rfl))))
             rcases A with e|e
             · exact m k (e▸a)
             exact aF (aJ h.size (e k a)),
           row:=(b B h.lt (fun e=>h.C9 e rfl)).trans h.row,
           map:=mO h.map (b _ (uh h.map) (fun e=>by obtain⟨c,f⟩:=h.zS e;exact h.xO f rfl)),
           came:=h.came.other (b _ h.came.lt (fun e=>by obtain⟨c,f⟩:=h.zS e;exact M8 h.came f rfl)),
           goes:=h.goes.other (b _ h.goes.lt (fun e=>by obtain⟨c,f⟩:=h.zS e;exact M8 h.goes f rfl)),
           image:=o}
def Gt{f:Array Oper}{rest:List Oper}{o:Oper}{a:Act}{Q:Exit->Act->kV->Prop}(E:o.guard=none)(k x:Operand)(p:o.op=.call {callee:=.builtin .append,args:=#[k,x],argTypes:=#[55,9]})
  {L:XU} (q:a.eval k=v) (A:w.ownsRow 0 5 1 v L.length (lC L)) {t:XB} (r:a.eval x=.string t) (n:L.length+t.size<=100000000)
  (h:∀v' w',w'.ownsRow 0 5 1 v' (L++t.data.toList).length (lC (L++t.data.toList))->w.grownBy w' v.ownBlock->(v'.ownBlock=v.ownBlock∨∀g,v'.ownBlock=some g->w.heap.size<=g)->wpList aD1 f Q rest (a.put o.dst v') w'):wpList aD1 f Q (o::rest) a w:=by
 obtain⟨s,i,b,c,d⟩:=bZ yC;refine jV E fun K hK=> ?_;obtain⟨v',w',j,l,m,y⟩:=iK (P:=aD1) w 0 55 9 o.type 5 s bQ dB i b c d v L.length (lC L) A t (by unfold maxLen;omega) (by omega) (aR _);unfold Oper.wp execOp;simp only[p,resolve,invoke,builtin,fQ,iN,fE,List.map_toArray,bW,fP,q,r,j];exact hK _ _ (h v' w' (by rw[au,mg,o9];exact l) m (Dh.Df bQ dB i b c d A (by unfold maxLen;omega) (by omega) j))
abbrev S.got(s:S)(b:XB):S:={s with im:=s.im++b.data.toList,pU:=IntKind.u16.wrap (s.pU+1),since:=wrap64 (s.since+1)}
noncomputable def S.Cs (c:Bool) (s:S) (b:XB):S:=if(b.size:Int)<s.nK then(s.got b).answer.fin c else if wrap64 (s.since+1)=s.oL then(s.got b).answer else(s.got b).withheld
def yU(s:S):∃i c q z,s.pW={s.sH with id:=i,cl:=c,gq:=q,lost:=z}:=xB _ _ _ _ _
def Aa(o:s.Ok)(G:0<=s.port/\s.port<=65535)(F:0<=s.oJ/\s.oJ<=65535)(D:s.mJ.size=32)(b:XB)(N:s.im.length+b.size<=1048576):Ms 294 [.string b] s (.tuple #[]) (s.Cs true b):=by
 intro w0 P w B l h;have r:=h.k;have m:=h.image;have j:= @yt (s.got b) o G F;have t:= @JM (s.got b) o;have q:= @OZ (s.got b).answer (by unfold S.answer;obtain⟨_,_,_,_,e⟩:=yU (s.got b).yG;rw[e];show(s.im++b.data.toList).length<=_;rw[au,mg];omega) (by unfold S.answer;obtain⟨_,_,_,_,e⟩:=yU (s.got b).yG;rw[e];exact D);unfold S.Cs;generalize(s.got b).answer.fin true=z1 at*;generalize(s.got b).answer=z2 at*
 by_cases n:(b.size:Int)<s.nK
 ·simp only[n,bI]
  go_enter func294,ntmps294;go_wp2_with (first|(at_builtin;refine Gt rfl (.tmp 8) (.tmp 9) rfl rfl m rfl (by omega) ?_;intro v M A f E;have a:=h.im f A E;have L:=a.k;obtain⟨y,J,z,g⟩:=Wt.nO A;subst g)|(go_at_call 293;refine qC j (a.st.st.st.x rfl rfl) fun u2 i c p=> ?_)|(go_at_call 312;refine qC q c fun u3 H C O=> ?_));go_end0;exact⟨rfl,H,C⟩
 by_cases d:wrap64 (s.since+1)=s.oL
 all_goals
  simp only[n,d,bI,bD];first|have I:(wrap64 (s.since+1)==s.oL)=true:=by simpa using d|have I:(wrap64 (s.since+1)==s.oL)=false:=by simpa using d
  clear d;go_enter func294,ntmps294;go_wp2_with (at_builtin;refine Gt rfl (.tmp 8) (.tmp 9) rfl rfl m rfl (by omega) ?_;intro v M A f E;have a:=h.im f A E;have L:=a.k;obtain⟨y,J,z,g⟩:=Wt.nO A;subst g);go_quiet (fail);go_wp2_with (first|(go_at_call 293;refine qC j (a.st.st.st.dn.x rfl rfl) fun u2 i c p=> ?_)|(go_at_call 313;refine qC t (a.st.st.st.dn.x rfl rfl) fun u2 i c p=> ?_));go_end0;exact⟨rfl,i,c⟩
noncomputable def S.uF (c:Bool) (s:S) (bl pt:Int) (b:XB):S:=if s.nK<(b.size:Int)then s else if bl=s.pU then(if s.cap<(s.im.length:Int)+b.size then s.giveUp pt 3 else s.Cs c b)else s.answer
noncomputable def S.data (c:Bool) (s:S) (bl pt:Int) (b:XB):S:=if s.phase=1 then(if bl=1 then(s.uK pt).uF c bl pt b else s)else s.uF c bl pt b
def Jb(o:s.Ok)(m:0<=s.port/\s.port<=65535)(D:0<=s.oJ/\s.oJ<=65535)(C:s.mJ.size=32)(p:Lt)(A:0<=p.pt/\p.pt<=65535)(T:s.im.length<=600000/\p.ds.size<=300000):Ms 262 [.agg p.c] s (.tuple #[]) (s.data true p.bl p.pt p.ds):=by
 intro w0 P w B l h;have r:=h.k;obtain⟨G,a,L,b,H,n,J,f⟩:=p;dsimp only at A T ⊢;unfold S.data
 by_cases e:s.phase=1
 ·by_cases j:a=1
  case neg=>
   have z:(s.phase==1)=true:=by simpa using e
   have I:(a==1)=false:=by simpa using j
   simp only[e,j,bI,bD];clear e j;go_enter func262,ntmps262;go_wp2;go_returns
   exact⟨rfl,l,h.al⟩
  rw[aB e,aB j];obtain⟨M,O,R⟩:=Dh.lH h.image;unfold S.uF
  rcases(by omega:s.nK<(b.size:Int)∨ ¬s.nK<(b.size:Int)/\(¬a=s.pU∨a=s.pU/\(s.cap<(s.im.length:Int)+b.size∨ ¬s.cap<(s.im.length:Int)+b.size)))with hl|⟨hl,hb|⟨hb,hc|hc⟩⟩
  all_goals
     as_aux_lemma=>
   try have E:(a==s.pU)=false:=by simpa using hb
   try have E:(a==s.pU)=true:=by simpa using hb
   first|rw[aB hl]|rw[az hl]
   try first|rw[aB hb]|rw[az hb]
   try first|rw[aB hc]|rw[az hc]
   have z:(s.phase==1)=true:=by simpa using e
   have I:(a==1)=true:=by simpa using j
   clear e j;try clear hb
   go_enter func262,ntmps262;go_wp2_with (go_at_call 292;refine qC (yw f) (h.al (o:=.cells (Lt.c ⟨G,a,L,b,H,n,J,f⟩) 267)).base fun u1 F d U=> ?_;have N:=(bx (ah w _) (h.out 0).1 d).1;obtain⟨t,v,y⟩:=Dh.lH d.image);repeat
    go_quiet (fail);go_wp2_with (first|(go_at_call 293;refine qC (yt (s:=s.uK f) o m A) (by repeat with_reducible first|apply Mw.dn|exact d) fun u2 i g q=> ?_)|(go_at_call 291;refine qC (Aq (s:=s.uK f) o m f 3 A (by decide)) (by repeat with_reducible first|apply Mw.dn|exact d) fun u2 i g q=> ?_)|(go_at_call 294;refine qC (Aa (s:=s.uK f) o m A C b (show s.im.length+b.size<=1048576 by omega)) (by repeat with_reducible first|apply Mw.dn|exact d) fun u2 i g q=> ?_))
   go_end0;first|exact⟨rfl,i,h.al.join g⟩|exact⟨rfl,F,h.al.join (by repeat with_reducible first|apply Mw.dn|exact d)⟩
 rw[az e];obtain⟨M,O,R⟩:=Dh.lH h.image;unfold S.uF
 rcases(by omega:s.nK<(b.size:Int)∨ ¬s.nK<(b.size:Int)/\(¬a=s.pU∨a=s.pU/\(s.cap<(s.im.length:Int)+b.size∨ ¬s.cap<(s.im.length:Int)+b.size)))with hl|⟨hl,hb|⟨hb,hc|hc⟩⟩
 all_goals
   as_aux_lemma=>
  try have E:(a==s.pU)=false:=by simpa using hb
  try have E:(a==s.pU)=true:=by simpa using hb
  first|rw[aB hl]|rw[az hl]
  try first|rw[aB hb]|rw[az hb]
  try first|rw[aB hc]|rw[az hc]
  have z:(s.phase==1)=false:=by simpa using e
  clear e;try clear hb
  go_enter func262,ntmps262;go_wp2_with (go_at_call 292;refine qC (yw f) (h.al (o:=.cells (Lt.c ⟨G,a,L,b,H,n,J,f⟩) 267)).base fun u1 F d U=> ?_;have N:=(bx (ah w _) (h.out 0).1 d).1;obtain⟨t,v,y⟩:=Dh.lH d.image);repeat
   go_quiet (fail);go_wp2_with (first|(go_at_call 293;refine qC (yt o m D) (by repeat with_reducible first|apply Mw.dn|exact h.al) fun u2 i g q=> ?_)|(go_at_call 291;refine qC (Aq o m f 3 A (by decide)) (by repeat with_reducible first|apply Mw.dn|exact h.al) fun u2 i g q=> ?_)|(go_at_call 294;refine qC (Aa o m D C b (show s.im.length+b.size<=1048576 by omega)) (by repeat with_reducible first|apply Mw.dn|exact h.al) fun u2 i g q=> ?_))
  go_end0;first|exact⟨rfl,i,g⟩|exact⟨rfl,l,by repeat with_reducible first|apply Mw.dn|exact h.al⟩
noncomputable def S.letter (c:Bool) (s:S) (g:Tf.sG) (f:Int):S:=if(g.op:Int)=5 then s.fail else if(g.op:Int)=6 then s.opt f g.fs else if(g.op:Int)=3 then s.data c g.block f ⟨g.data.toArray⟩else s
noncomputable def S.F_ (c:Bool) (s:S) (fr ta f t k:Int) (g:Tf.sG):S:=
 if s.mY=true/\fr=s.pz/\ta=s.addr/\t=s.port/\k=0 then(if s.phase=1∨f=s.oJ then s.letter c g f else if(g.op:Int)=5 then s else s.refuse f 5)else s
abbrev Ki(g:Tf.sG)(sa:XO)(sc:Nat):XV:=(rT g.op g.block ⟨g.text.toArray⟩ ⟨g.data.toArray⟩ sa g.fs.length sc)
def Ta(a b c d:Bool):a=false∨a=true/\(b=true∨b=false/\(c=true∨c=false/\(d=true∨d=false))):=by cases a<;>cases b<;>cases c<;>cases d<;>simp
def Ju(o:s.Ok)(hp:0<=s.port/\s.port<=65535)(hf:0<=s.oJ/\s.oJ<=65535)(hd:s.mJ.size=32)(hi:s.im.length<=600000)(id nS pr D N f t k:Int)(ld uC:XB)(E:0<=f/\f<=65535)(g:Tf.sG)(hg:g.data.length<=300000/\∀x ∈ g.fs,x.2.length<=1048576)
  (U:∀u,D_ 218 #[.string uC] u fun e u'=>TfR.JI g.fs.length (Tf.mQ g.fs) u (fun i j=>.tuple #[.agg (Ki g i j),E4 k]) e u'):
  Ms 176 [.agg (rI id nS pr D N ld),.agg (rG f t uC)] s (.tuple #[]) (s.F_ true D N f t k g):=by
 intro w0 P w B l h;have r:=h.k;have C:=fun {w0 P w B l} h=> @zm w0 P w B l s h;have T:=fun {w0 P w B l} h=> @vX w0 P w B l s h;have R:=fun {w0 P w B l} h=> @mE w0 P w B l s h;unfold S.F_
 rcases Ta s.mY (D !=s.pz) (N !=s.addr) (t !=s.port)with e0|⟨e0,e1|⟨e1,e2|⟨e2,e3|e3⟩⟩⟩
 case inr.inr.inr.inr=>
  have q1:D=s.pz:=by simpa using e1
  have q2:N=s.addr:=by simpa using e2
  have q3:t=s.port:=by simpa using e3
  subst q1 q2 q3;simp only[e0,gM];rw[e0]at C;have J:(s.phase=1∨f=s.oJ)/\((s.phase==1)=true∨(s.phase==1)=false/\(f==s.oJ)=true)∨ ¬(s.phase=1∨f=s.oJ)/\(s.phase==1)=false/\(f==s.oJ)=false:=by
   by_cases a:s.phase=1<;>by_cases b:f=s.oJ<;>simp[a,b]
  have H:=((h.al (o:=.cells #[E6 id,E8 nS,E8 pr,E3 s.pz,E3 s.addr,.string ld] 120)).al (o:=.cells #[E6 f,E6 s.port,.string uC] 98)).base
  by_cases v:k=0
  case neg=>
   have ek:(k !=0)=true:=by simpa using v
   simp only[v,bD];clear v;go_enter func176,ntmps176;go_wp2;go_quiet (first|(go_at_call 87;exact bE (C (Mw.dn h.al.al)))|(go_at_call 130;exact bE (T (Mw.dn h.al.al)))|(go_at_call 74;exact bE (R (Mw.dn h.al.al))));go_wp2_with (go_at_call 218;refine(U _).mono ?_;rintro _ u1 ⟨i,j,rfl,A,L⟩;obtain⟨m,A,I⟩:∃m,Fr m i g.fs.length j g.fs u1/\∀k,lI B l k->k<m:=⟨_,A,fun k v=>H.dn.nE v⟩;have p:=H.dn.below L;have r1:=p.k;have q:u1.heap[w.heap.size+1]?=some (.cells #[E6 f,E6 s.port,.string uC] 98 (0,0)):=(p.kept _ (by simp) (h.out 1).1).trans (oh.mK w _ _);have k1:=lT q);go_end0;exact⟨rfl,l,h.al.al.join p.al⟩
  subst v;simp only[bI]
  rcases J with⟨G,X⟩|⟨G,X,M⟩
  ·rw[aB G]
   clear G
   rcases X with X|⟨X,M⟩
   all_goals
    go_enter func176,ntmps176;go_wp2;go_quiet (first|(go_at_call 87;exact bE (C (Mw.dn h.al.al)))|(go_at_call 130;exact bE (T (Mw.dn h.al.al)))|(go_at_call 74;exact bE (R (Mw.dn h.al.al))));go_wp2_with (go_at_call 218;refine(U _).mono ?_;rintro _ u1 ⟨i,j,rfl,A,L⟩;obtain⟨m,A,I⟩:∃m,Fr m i g.fs.length j g.fs u1/\∀k,lI B l k->k<m:=⟨_,A,fun k v=>H.dn.nE v⟩;have p:=H.dn.below L;have r1:=p.k;have q:u1.heap[w.heap.size+1]?=some (.cells #[E6 f,E6 s.port,.string uC] 98 (0,0)):=(p.kept _ (by simp) (h.out 1).1).trans (oh.mK w _ _);have k1:=lT q);go_quiet (fail);go_wp2;have Y:=p.al (o:=.cells (Ki g i j) 133);have Z:=qH (o:=.cells (Ki g i j) 133) q;have hz:∀ {u z l'},Mx (u1.alloc (.cells (Ki g i j) 133)) (lI B l) u B l' z->Cl u (w.heap.size+1) #[E6 f,E6 s.port,.string uC]/\Cl u u1.heap.size (Ki g i j):=fun h'=>⟨(bx Z (h.out 1).1 h').1,(bx (ah u1 _) (p.out 0).1 h').1⟩;have W:=Mw.dn (n:=nq) Y.base;have F:Fr m i g.fs.length j g.fs (((u1.alloc (.cells (Ki g i j) 133)).drewN nq).drew):=lJ (A.alloc (.cells (Ki g i j) 133)) (fun _ _=>rfl);generalize(u1.alloc (.cells (Ki g i j) 133)).drewN nq=V at W F ⊢;have O:∀(B:Nat) (l:Lc) u o,Fr m i g.fs.length j g.fs u/\(∀k,lI B l k->k<m)->Fr m i g.fs.length j g.fs (u.alloc o)/\(∀k,lI B l k->k<m):=fun _ _ u o h=>⟨h.1.alloc _,h.2⟩;have H0:Does (fun B l u=>Fr m i g.fs.length j g.fs u/\∀k,lI B l k->k<m) 260 (.agg (Lt.c ⟨g.op,g.block,⟨g.text.toArray⟩,⟨g.data.toArray⟩,i,g.fs.length,j,f⟩)) s s.fail:=by intro w0 P w B l h _;exact G7 _ h
    have H1:= @D9 s g.fs o hp ⟨g.op,g.block,⟨g.text.toArray⟩,⟨g.data.toArray⟩,i,g.fs.length,j,f⟩ E rfl hg.2 m;have H2:Does (fun B l u=>Fr m i g.fs.length j g.fs u/\∀k,lI B l k->k<m) 262 (.agg (Lt.c ⟨g.op,g.block,⟨g.text.toArray⟩,⟨g.data.toArray⟩,i,g.fs.length,j,f⟩)) s (s.data true g.block f ⟨g.data.toArray⟩):=by intro w0 P w B l h _;exact Jb o hp hf hd ⟨g.op,g.block,⟨g.text.toArray⟩,⟨g.data.toArray⟩,i,g.fs.length,j,f⟩ E ⟨hi,by rw[strSize];exact hg.1⟩ h
    go_region_held3 (fun u=>Cl u (w.heap.size+1) #[E6 f,E6 s.port,.string uC]/\Cl u u1.heap.size (Ki g i j)) (exact hz (by first|exact y|exact h4|exact W.dr))
     (first|(go_at_call 220;refine on_ (DZ _) fun u4 hu=> ?_;subst hu;have h4:=W.dr.al (o:=.cells J9 306))|(go_at_call 219;refine on_ (JX O h4 ⟨F.alloc _,I⟩ (ah _ _) (W.dr.out 0).1 _ ⟨g.op,g.block,⟨g.text.toArray⟩,⟨g.data.toArray⟩,i,g.fs.length,j,f⟩ H0 H1 H2) fun u5 ⟨l5,y⟩=> ?_))
    go_wp2;go_end0;exact⟨rfl,l5,h.al.al.join (p.al.join y)⟩
  rw[az G];clear G
  by_cases y:(g.op:Int)=5
  all_goals
   first|have e5:((g.op:Int)==5)=true:=by simpa using y|have e5:((g.op:Int)==5)=false:=by simpa using y
   first|rw[aB y]|rw[az y]
   clear y;go_enter func176,ntmps176;go_wp2;go_quiet (first|(go_at_call 87;exact bE (C (Mw.dn h.al.al)))|(go_at_call 130;exact bE (T (Mw.dn h.al.al)))|(go_at_call 74;exact bE (R (Mw.dn h.al.al))));go_wp2_with (go_at_call 218;refine(U _).mono ?_;rintro _ u1 ⟨i,j,rfl,A,L⟩;obtain⟨m,A,I⟩:∃m,Fr m i g.fs.length j g.fs u1/\∀k,lI B l k->k<m:=⟨_,A,fun k v=>H.dn.nE v⟩;have p:=H.dn.below L;have r1:=p.k;have q:u1.heap[w.heap.size+1]?=some (.cells #[E6 f,E6 s.port,.string uC] 98 (0,0)):=(p.kept _ (by simp) (h.out 1).1).trans (oh.mK w _ _);have k1:=lT q);go_quiet (fail);go_wp2_with (go_at_call 221;refine qC (EI o hp f 5 E (by decide)) p.al.dn fun u2 l2 Y r2=> ?_);go_end0;first|exact⟨rfl,l2,h.al.al.join Y⟩|exact⟨rfl,l,h.al.al.join p.al.dn⟩
 all_goals
  have F:(s.mY=true/\D=s.pz/\N=s.addr/\t=s.port/\k=0)=False:=by
   simp only[eq_iff_iff,iff_false];rintro ⟨a,b,c,d,_⟩;subst b c d;simp_all
  simp only[F,bD];clear F;rw[e0]at C;clear U;go_enter func176,ntmps176;go_wp2;go_quiet (first|(go_at_call 87;exact bE (C (Mw.dn h.al.al)))|(go_at_call 130;exact bE (T (Mw.dn h.al.al)))|(go_at_call 74;exact bE (R (Mw.dn h.al.al))));go_wp2;go_returns
  exact⟨rfl,l,h.al.al.dn⟩
def Ff{id nS i n p k f t j:Int}{A g uC:XB}{sd st:S}
  (H:∀u,C_ 173 #[.string A] u (.tuple #[.agg (rI id nS i n p g),E4 k]) (y_ u))
  (J:∀u,C_ 174 (rJ g n p) u (.tuple #[.agg (rG f t uC),E4 j]) (y_ u))
  (G:Ms 175 [.string uC] s (.tuple #[]) sd) (I:Ms 176 [.agg (rI id nS i n p g),.agg (rG f t uC)] s (.tuple #[]) st):
  Ms 141 [.string A] s (.tuple #[]) (if k=0/\i=17/\j=0 then(if t=68 then sd else st)else s):=by
 intro w0 P w B l h
 rcases(by by_cases a:k=0<;>by_cases b:i=17<;>by_cases c:j=0<;>by_cases d:t=68<;>simp[a,b,c,d]:(k !=0)=true∨(k !=0)=false/\((i !=17)=true∨(i !=17)=false/\((j !=0)=true∨(j !=0)=false/\((t==68)=true∨(t==68)=false))))with e|⟨e,e1|⟨e1,e2|⟨e2,e3|e3⟩⟩⟩
 all_goals
  have C:k=0↔(k !=0)=false:=by simp
  have D:i=17↔(i !=17)=false:=by simp
  have E:j=0↔(j !=0)=false:=by simp
  have F:t=68↔(t==68)=true:=by simp
  simp only[C,D,E,F,e, *,eX,aY,gM,iX,f_,and_false,kv,bI,bD];clear C D E F;go_enter func141,ntmps141;go_wp2_with (first|(go_at_call 173;refine on_ (H _) fun u1 r=> ?_;have v:=(h.below r).al (o:=.cells (rI id nS i n p g) 120))|(go_at_call 174;refine on_ (J _) fun u2 m=> ?_;have q:=v.below m;have j:=lT ((m.block u1.heap.size (by simp)).trans (ah u1 _)))|(go_at_call 175;refine qC G q.al fun u3 z y L=> ?_)|(go_at_call 176;refine qC I q.al fun u3 z y L=> ?_));first|go_end0|go_returns
  first|exact⟨rfl,z,y⟩|exact⟨rfl,l,q.al⟩|exact⟨rfl,l,v⟩
abbrev Ce(a b c d e f a' b' c' d' e' f':UInt8)(ty:Int)(ld:XB):XV:=(rD a.toNat b.toNat c.toNat d.toNat e.toNat f.toNat a'.toNat b'.toNat c'.toNat d'.toNat e'.toNat f'.toNat ty ld)
def S.MR(s:S)(a b c d e f:UInt8):Bool:=pG a b c d e f s.k0 s.k1 s.k2 s.k3 s.k4 s.k5||pG a b c d e f 255 255 255 255 255 255
def UO{a b c d e f a' j c' d' m p:UInt8}{ty k:Int}{g A:XB}{t v:S}
  (J:∀u,C_ 98 #[.string A] u (.tuple #[.agg (Ce a b c d e f a' j c' d' m p ty g),E4 k]) (y_ u))
  (I:Ms 140 [.string g] s (.tuple #[]) t) (L:Ms 141 [.string g] s (.tuple #[]) v):
  Ms 64 [.string A] s (.tuple #[]) (if k=0/\s.MR a b c d e f=true then(if ty=2054 then t else if ty=2048 then v else s)else s):=by
 intro w0 P w B l h;have T:=fun u=>qZ a b c d e f s.k0 s.k1 s.k2 s.k3 s.k4 s.k5 u;have U:∀u,(Op.equalIn 10000 26 (.agg (rM a.toNat b.toNat c.toNat d.toNat e.toNat f.toNat)) (.agg (rM 255 255 255 255 255 255))).run aD1 u=.ok (pG a b c d e f 255 255 255 255 255 255) u:=fun u=>qZ a b c d e f 255 255 255 255 255 255 u;have E:s.MR a b c d e f=(pG a b c d e f s.k0 s.k1 s.k2 s.k3 s.k4 s.k5||pG a b c d e f 255 255 255 255 255 255):=rfl;generalize pG a b c d e f s.k0 s.k1 s.k2 s.k3 s.k4 s.k5=m1 at*;generalize pG a b c d e f 255 255 255 255 255 255=m2 at*;rw[E];clear E;have G:Does (fun _ _ _=>True) 140 (.string g) s t:=by intro w0 P w B l h _;exact I h
 have H:Does (fun _ _ _=>True) 141 (.string g) s v:=by intro w0 P w B l h _;exact L h
 generalize hz:(if ty=2054 then t else if ty=2048 then v else s)=z
 rcases(by by_cases q:k=0<;>cases m1<;>cases m2<;>simp[q]:(k !=0)=true∨(k !=0)=false/\(m1=true∨m1=false/\(m2=true∨m2=false)))with e0|⟨e0,rfl|⟨rfl,rfl|rfl⟩⟩
 all_goals
  have F:k=0↔(k !=0)=false:=by simp
  simp only[F,e0,jD,Bool.or_true,Bool.or_self,eX,aY,gM,f_,and_false,kv,bI,bD];clear F;go_enter func64,ntmps64;go_wp2_with (go_at_call 98;refine on_ (J _) fun u1 y=> ?_;have i:=h.below y;have Y:=i.k;have W:=i.all;have X:=KI i);go_quiet (fail);go_wp2;first
  |(go_returns;exact⟨rfl,l,i.al.dn⟩)
  |
    have r:=Mw.dn (n:=nq) (i.al (o:=.cells (Ce a b c d e f a' j c' d' m p ty g) 111)).base;have O:∀ {u z l'},Mx (u1.alloc (.cells (Ce a b c d e f a' j c' d' m p ty g) 111)) (lI B l) u B l' z->Cl u u1.heap.size (Ce a b c d e f a' j c' d' m p ty g):=fun M=>(bx (ah u1 _) (i.out 0).1 M).1;generalize(u1.alloc (.cells (Ce a b c d e f a' j c' d' m p ty g) 111)).drewN nq=V at r ⊢;go_region_held3 (Cl · u1.heap.size (Ce a b c d e f a' j c' d' m p ty g)) (exact O (by first|exact D|exact C|exact r.dr))
     (first|(go_at_call 100;refine on_ (EA _) fun u4 N=> ?_;subst N;have C:=r.dr.al (o:=.cells OE 201))|(go_at_call 99;refine on_ (Me (fun _ _ _ _ _=>trivial) C trivial (ah _ _) (r.dr.out 0).1 ty g G H) fun u5 ⟨R,D⟩=> ?_))
    go_wp2;go_end0;exact⟨rfl,R,by rw[<-hz];exact i.al.join D⟩
def uV(h:Mx w0 P w B l s):C_ 53 #[p_ B] w (.bool s.wP) fun u=>u=w:=by
 have r:=h.k;unfold S.wP
 cases e1:(s.phase==3)
 all_goals
  simp only[jD,iG];go_enter func53,ntmps53;go_wp2;go_ret;exact⟨rfl,rfl⟩
def Zc(a:Int){c d f:S}(p:s.wP=false)(g:Ms 54 [] (s.tk a) (.tuple #[]) c)(i:Ms 55 [] c (.tuple #[]) d)(j:Ms 56 [] d (.tuple #[]) f):
  Ms 36 [E3 a] s (.tuple #[]) f:=by
 intro w0 P w B l h;have r:=h.k;have b:=fun {w0 P w B l} h=> @uV w0 P w B l (s.tk a) h;rw[show(s.tk a).wP=s.wP from rfl,p]at b;go_enter func36,ntmps36;go_wp2_with (first|(go_at_call 53;refine on_ (b (h.st.st.x rfl rfl)) fun u q=> ?_;subst q)|(go_at_call 54;refine qC g (h.st.st.x rfl rfl) fun u1 v m z=> ?_)|(go_at_call 55;refine qC i m fun u2 y n A=> ?_)|(go_at_call 56;refine qC j n fun u3 t o C=> ?_));go_end0;exact⟨rfl,t,o⟩
def ZK(a:Int)(c:s.wP=true):Ms 36 [E3 a] s (.tuple #[]) (s.tk a):=by
 intro w0 P w B l h;have r:=h.k;have b:=fun {w0 P w B l} h=> @uV w0 P w B l (s.tk a) h;rw[show(s.tk a).wP=s.wP from rfl,c]at b;go_enter func36,ntmps36;go_wp2_with (go_at_call 53;refine on_ (b (h.st.st.x rfl rfl)) fun u d=> ?_;subst d);go_end0;exact⟨rfl,l,h.st.st.x rfl rfl⟩
def JR(t:XB)(g:t.size<=140737488355000):Ms 34 [.string t] s (.bool (decide (s.cq.length<s.rx))) (s.put t):=by
 intro w0 P w B l h;have b:=fun u=>Rd.zO t u (by omega);have a:=fun {w0 P w B l} h=> @R_ w0 P w B l s h t;unfold S.put;generalize(if s.cq.length<s.rx then {s with cq:=s.cq++ [t]}else s)=z at*;go_enter func34,ntmps34;go_wp2;go_region_held3 (fun u=>True) (trivial)
  (first|(go_at_call 49;refine on_ (b _) fun u f=> ?_;have c:=h.dr.below f)|(go_at_call 51;refine on_ (a c) fun u2 d=> ?_))
 go_wp2;go_ret;exact⟨rfl,l,d⟩
def FZ:Ms 35 [] s (.tuple #[.string (Fa s.gq),.bool (!s.gq.isEmpty)]) {s with gq:=s.gq.tail}:=by
 intro w0 P w B l h;go_enter func35,ntmps35;go_wp2_with (go_at_call 52;refine on_ (Pg h) fun u ⟨b,a⟩=> ?_);go_ret2;exact⟨rfl,b,a⟩
def S.EC(s:S):Value:=.tuple #[.string (if s.phase=3 then⟨s.im.toArray⟩else⟨#[]⟩),.bool (decide (s.phase=3))]
def Us(h:Mx w0 P w B l s):C_ 47 #[p_ B] w s.EC fun u=>u=w:=by
 have r:=h.k;have b:=oG w 0 l.img s.im h.image;unfold S.EC
 by_cases e:s.phase=3
 all_goals
  first|have a:(s.phase !=3)=false:=by simpa using e|have a:(s.phase !=3)=true:=by simpa using e
  simp only[e,decide_true,decide_false,bI,bD];clear e;go_enter func47,ntmps47;go_wp2;go_ret2;exact⟨rfl,rfl⟩
abbrev S.DX(s:S):Value:=.agg (rB s.now s.st s.phase s.addr s.qV s.im.length s.lost s.cl.length)
def ry(F:S->XB->S):Nat->Int->S->S×Int
 |0,_,s=>(s,0)
 |f+1,n,s=>if 0<n then match s.cq with
   |[]=>(s,0)
   |t::q=>((ry F f (n-1) (if s.wP=true then {s with cq:=q}else F {s with cq:=q} t)).1,(ry F f (n-1) (if s.wP=true then {s with cq:=q}else F {s with cq:=q} t)).2+1)
  else(s,0)
def XW{F:S->XB->S}{G:S->Prop}(p:∀z t,G z->z.wP=false->t.size<=262144->Ms 64 [.string t] z (.tuple #[]) (F z t)/\G (F z t)/\(F z t).cq=z.cq)(r:∀z t q,G z->z.cq=t::q->G {z with cq:=q}/\t.size<=262144)(n:Int)(J:G s):
  Ms 43 [E4 n] s (E4 (ry F 17 n s).2) (ry F 17 n s).1:=by
 intro w0 P w B l h;obtain⟨Y,m⟩:=ex_ (ry F 17 n s);rw[<-m];have v:s.cq.length<=16:=aJ h.came.2.2.2.1 h.came.2.1;replace m:=ll m
 replace p:=ll p
 replace r:=ll r
 go_enter func43,ntmps43;go_wp2;go_loopw [5] (fun i wr=>∃(k:Nat) (z:S) (C:Lc),i=E4 k/\k+z.cq.length<=16/\Hid (Y=((ry F (17-k) (n-k) z).1,(ry F (17-k) (n-k) z).2+k))/\Hid (Mx w0 P wr B C z)/\Hid (G z)) (fun i _=>17-(intOf i).toNat)
 case atStart=>exact⟨0,s,l,rfl,by omega,ll (by rw[m.out];simp),ll h,ll J⟩
 clear m J h v;obtain⟨k,z,C,rfl,I,a,N,O⟩:=hrel;have E:=N.out;replace a:=a.out
 rw[show 17-k=(16-k)+1 by omega,ry]at a;have b:=NB E
 by_cases U:(k:Int)<n
 case neg=>
  rw[az (by omega)]at a;obtain rfl:Y=(z,(k:Int)):=by rw[a];simp
  clear b a;have A:n<=k:=by omega
  go_wp2;go_ret;exact⟨rfl,C,E⟩
 rw[aB (by omega)]at a;have L:(k:Int)<=16:=by omega
 cases hc:z.cq with
 |nil=>
  rw[hc]at a b;obtain rfl:Y=(z,(k:Int)):=by rw[a];simp
  have D:({z with cq:=([]:List XB).tail}:S)=z:=by rw[List.tail_nil,<-hc]
  rw[D]at b;clear a D;go_wp2_with (go_at_call 52;refine on_ b fun u ⟨o,c⟩=> ?_);go_ret;exact⟨rfl,o,c⟩
 |cons t q=>
  rw[hc]at a b I;dsimp only at a;rw[List.tail_cons]at b;have j:=fun {w0 P w B l} h=> @uV w0 P w B l {z with cq:=q} h;rw[show S.wP {z with cq:=q}=z.wP from rfl]at j;obtain⟨H,f⟩:=r.out z t q O.out hc;replace f:=ll f
  rw[ax]at I
  cases ho:z.wP
  case true=>
   rw[ho,aB rfl]at a;rw[ho]at j;replace a:=ll a
   go_wp2_with (first|(go_at_call 52;refine on_ b fun u ⟨o,c⟩=> ?_)|(go_at_call 53;refine on_ (j c) fun u2 g=> ?_;replace g:=g.symm;subst g));go_roundw
   case rel=>exact⟨k+1,{z with cq:=q},o,by go_num,by dsimp only;omega,ll (by rw[a.out,show 17-(k+1)=16-k by omega,show n-((k+1:Nat):Int)=n-k-1 by omega];congr 1;push_cast;omega),ll c,ll H⟩
   simp[intOf];omega
  obtain⟨M,y,d⟩:=p.out {z with cq:=q} t H ho f.out;rw[ho,az (by decide)]at a;rw[ho]at j;replace a:=ll a
  replace d:=ll d
  generalize F {z with cq:=q} t=z2 at*;go_wp2_with (first|(go_at_call 52;refine on_ b fun u ⟨o,c⟩=> ?_)|(go_at_call 53;refine on_ (j c) fun u2 g=> ?_;replace g:=g.symm;subst g)|(go_at_call 64;refine qC M c fun u3 T R V=> ?_));go_roundw
  case rel=>exact⟨k+1,z2,T,by go_num,by rw[d.out];omega,ll (by rw[a.out,show 17-(k+1)=16-k by omega,show n-((k+1:Nat):Int)=n-k-1 by omega];congr 1;push_cast;omega),ll R,ll y⟩
  simp[intOf];omega
end Nu
namespace Nu
open Bs
open oh (U4 uw tu)
variable{w0 w w' x y:kV}{P:Nat->Prop}{B Q:Nat}{cs:XV}{l l':Lc}{d d':Sd}{s s':S}{v v':Value}
structure Cg where
 k0:UInt8
 k1:UInt8
 k2:UInt8
 k3:UInt8
 k4:UInt8
 k5:UInt8
 name:XB
 cap:Int
 mJ:XB
 blk:Int
 win:Int
 rx:Int
 tx:Int
abbrev Cg.c(c:Cg):XV:=(rS c.k0.toNat c.k1.toNat c.k2.toNat c.k3.toNat c.k4.toNat c.k5.toNat c.name c.cap c.mJ c.blk c.win c.rx c.tx)
def Cg.ok(c:Cg):Bool:=oh.BN c.k0 c.k1 c.k2 c.k3 c.k4 c.k5 && (decide ((c.name.size:Int)<=20) && (Tf.lL c.name.data.toList && (((c.mJ.size:Int)==32) && ((decide (1<=c.cap) && decide (c.cap<=600000)) && ((decide (8<=c.blk) && decide (c.blk<=1024)) && ((decide (1<=c.win) && decide (c.win<=8)) && ((decide (1<=c.rx) && decide (c.rx<=16)) && (decide (1<=c.tx) && decide (c.tx<=16)))))))))
def way(p:Bool){X:Prop}(h:X):p=false∨p=true/\X:=by cases p<;>simp[h]
def Rt(c:Cg)(w:kV):C_ 48 #[.agg c.c] w (.bool c.ok) (y_ w):=by
 obtain⟨j,k,l,m,n,o,name,b,mJ,a,f,p,q⟩:=c;have r:=fun u=>oh.OB j k l m n o u;have i:(name.size:Int)<=20->∀u,D_ 76 #[.string name] u _:=fun h u=>Tf.vz name _ u rfl (by rw[mg];omega);unfold Cg.ok;dsimp only;generalize oh.BN j k l m n o=p0 at*;generalize Tf.lL name.data.toList=p2 at*
 rcases way p0 (way (decide ((name.size:Int)<=20)) (way p2 (way ((mJ.size:Int)==32) (way (decide (1<=b) && decide (b<=600000)) (way (decide (8<=a) && decide (a<=1024)) (way (decide (1<=f) && decide (f<=8)) (way (decide (1<=p) && decide (p<=16)) (way (decide (1<=q) && decide (q<=16)) trivial))))))))with rfl|⟨rfl,e1|⟨e1,rfl|⟨rfl,e3|⟨e3,e4|⟨e4,e5|⟨e5,e6|⟨e6,e7|⟨e7,e8|⟨e8,_⟩⟩⟩⟩⟩⟩⟩⟩⟩
 all_goals
   as_aux_lemma=>
  simp only[*,jm,jA,Bool.and_self];try have s:=i (by simpa using e1)
  clear i;go_enter func48,ntmps48;go_wp2_with (first|(go_at_call 75;refine on_ (r _) fun u1 d=> ?_;have t:=xJ.mX d)|(go_at_call 76;refine on_ (s _) fun u2 g=> ?_;subst g)|(go_at_call 77;refine on_ (oh.Cj _ _ _ _) fun u2 g=> ?_;subst g));go_ret;exact⟨rfl,b1_.trans (d.mono (by simp))⟩
def Cg.s0(c:Cg):S:=⟨⟨c.rx.toNat,c.tx.toNat,[],[],[],[]⟩,c.k0,c.k1,c.k2,c.k3,c.k4,c.k5,c.name,c.cap,c.mJ,c.blk,c.win,0,0,0,0,0,0,0,0,0,0,0,0,0,0,0,false,0,0,0,0,0,0,0,0,0,0,0,0,0,⟨#[]⟩,0,0⟩
def NN(c:Cg){X:kV}{g b d:Nat}{j l:XV}(z:1<=c.rx/\c.rx<=16)(B:1<=c.tx/\c.tx<=16)(O:9<=w.heap.size)(J:Gl w)(m:y_ w X)(r:X.heap[g]?=some (.map #[] 0))(q:X.heap[b]?=some (.cells j 9 (0,0)))(E:j.size=c.rx.toNat)(A:X.heap[d]?=some (.cells l 9 (0,0)))(I:l.size=c.tx.toNat)
  (M:b≠d) (t:w.heap.size<=g) (v:w.heap.size<=b) (y:w.heap.size<=d) {n:Nat} (s:X.heap.size=n):Mx w (fun _=>False) (X.alloc (.cells (cells ⟨g,b,0,d,0,.slice none 0 0⟩ c.s0) 102)) n ⟨g,b,0,d,0,.slice none 0 0⟩ c.s0:=by
 subst s;have a:=m.alloc m.size (.cells (cells ⟨g,b,0,d,0,.slice none 0 0⟩ c.s0) 102);have o:=fun k (f:k<X.heap.size)=>aO X (.cells (cells ⟨g,b,0,d,0,.slice none 0 0⟩ c.s0) 102) k f;exact
 {os:=a.os,tape:=a.tape,output:=a.output,size:=a.size,kept:=fun k f _=>a.block k f,
  own:=fun k f=>aF (by
   rcases f with rfl|rfl|rfl|rfl|f
   ·exact m.size
   ·exact t
   ·exact v
   ·exact y
   cases f),
  low:=⟨O,fun k h=>h.elim⟩,gl:=J,sz:=rfl,nd:=.nil,
  row:=ah X _,
  map:=⟨#[],0,(o _ (aC r)).trans r,⟨by simp,MapKept.stamped_empty 0,by simp⟩,aR _,rfl⟩,
  came:=⟨by show 0<c.rx.toNat;omega,by show c.rx.toNat<=16;omega,by show 0<c.rx.toNat;omega,aR _,j,(o _ (aC q)).trans q,E,fun i p=>absurd p (by show ¬i<0;omega)⟩,
  goes:=⟨by show 0<c.tx.toNat;omega,by show c.tx.toNat<=16;omega,by show 0<c.tx.toNat;omega,aR _,l,(o _ (aC A)).trans A,I,fun i p=>absurd p (by show ¬i<0;omega)⟩,
  apart:=M,
  image:=aU _ _ _ _}
def JW(c:Cg)(O:9<=w.heap.size)(M:Gl w):D_ 30 #[.agg c.c] w fun e u=>if c.ok=true then ∃B l,e=.returned (.tuple #[p_ B,E4 0])/\Mx w (fun _=>False) u B l c.s0 else e=.returned (.tuple #[.pointer none,E4 8])/\y_ w u:=by
 have C:=Rt c (w.alloc (.cells c.c 28))
 cases ho:c.ok
 case false=>
  rw[ho]at C;simp only[aY,bD];go_enter func30,ntmps30;go_wp2_with (go_at_call 48;refine on_ C fun u1 i=> ?_);go_ret2;exact⟨rfl,b1_.trans (i.mono (by simp))⟩
 rw[ho]at C;simp only[bI];obtain⟨m,o,q,r,s,t,name,d,mJ,b,f,T,V⟩:=c;obtain⟨h20,h32,W,Y⟩:(name.size:Int)<=20/\(mJ.size:Int)=32/\(1<=T/\T<=16)/\(1<=V/\V<=16):=by
  simp only[Cg.ok,bG,bT,bK]at ho;omega
 have hN:∀u,D_ 49 #[.string name] u _:=fun u=>Rd.zO name u (by omega);have hD:∀u,D_ 49 #[.string mJ] u _:=fun u=>Rd.zO mJ u (by omega);obtain⟨j,rfl⟩:∃n:Nat,T=n:=⟨T.toNat,by omega⟩;obtain⟨k,rfl⟩:∃n:Nat,V=n:=⟨V.toNat,by omega⟩;clear ho h20 h32;have R1:=oh.DF j (by omega) (by omega);have R2:=oh.DF k (by omega) (by omega);have a9:= @run_makeMap aD1;have kq:∀ {u:kV},u.heap[w.heap.size]?=some (.cells (Cg.c ⟨m,o,q,r,s,t,name,d,mJ,b,f,j,k⟩) 28 (0,0))->Cl u w.heap.size (Cg.c ⟨m,o,q,r,s,t,name,d,mJ,b,f,j,k⟩)/\Fre u w.heap.size:=fun h=>⟨(lT h).1,(lT h).2.1⟩;go_enter func30,ntmps30;go_wp2_with (go_at_call 48;refine on_ C fun u1 i=> ?_;have D:=(i.block w.heap.size (by simp)).trans (ah w _);have kn1:=lT D;have Z:y_ w u1:=b1_.trans (i.mono (by simp)));go_region_held3 (fun u=>Cl u w.heap.size (Cg.c ⟨m,o,q,r,s,t,name,d,mJ,b,f,j,k⟩)/\Fre u w.heap.size) (exact kq (by first|exact D|exact X|exact F|exact lG _ 6 _ F|exact lG _ 8 _ (lG _ 6 _ F)))
  (first|(go_at_call_of 49 (Value.string name);refine on_ (hN _) fun u2 y=> ?_;have X:=(y.block w.heap.size (aC D)).trans D;have b2:=Z.drew.trans (y.mono Z.size))|(go_at_call_of 49 (Value.string mJ);refine on_ (hD _) fun u3 z=> ?_;have F:=(z.block w.heap.size (aC X)).trans X;have b3:=b2.trans (z.mono b2.size)))
 have v:=lG _ 8 (.string mJ) (lG u3 6 (.string name) F);have L:y_ w _:=(b3.setCell (p:=(n_ w 6)) (ae _) (.string name)).setCell (p:=(n_ w 8)) (ae _) (.string mJ);generalize(u3.setCell (n_ w 6) (.string name)).setCell (n_ w 8) (.string mJ)=U at*;replace v:U.heap[w.heap.size]?=some (.cells (Cg.c ⟨m,o,q,r,s,t,name,d,mJ,b,f,j,k⟩) 28 (0,0)):=v
 have kn4:=lT v;have z4:=aC v;clear D X F kn1 i y z Z b2 b3 C hN hD;go_wp2;go_region_held3 (fun u=>Cl u w.heap.size (Cg.c ⟨m,o,q,r,s,t,name,d,mJ,b,f,j,k⟩)/\Fre u w.heap.size) (exact kq (by first|exact v|exact qH v|exact G|exact qH G|exact x6|exact qH x6|exact qH (qH x6)))
  (first|(go_at_call_of 50 (Value.int .i64 (j:Int));refine(R1 _).mono ?_;rintro _ u5 ⟨N,a7,rfl,a0,A,I,g⟩;have G:=(g.block w.heap.size (by first|exact z4|(simp;omega))).trans (by first|exact v|exact qH v))|(go_at_call_of 50 (Value.int .i64 (k:Int));refine(R2 _).mono ?_;rintro _ u6 ⟨R,a8,rfl,a6,E,J,a⟩;have x6:=(a.block w.heap.size (by have:=aC G;first|exact this|(simp;omega))).trans (by first|exact G|exact qH G)))
 all_goals
  go_wp2;go_ret2;have a1:U.heap.size<=N:=aJ (by first|exact ae _|simp) a0;have a2:u5.heap.size<=R:=aJ (by first|exact ae _|simp) a6;have a3:U.heap.size<=u5.heap.size:=aJ (by first|exact ae _|simp) g.size;have a4:u5.heap.size<=u6.heap.size:=aJ (by first|exact ae _|simp) a.size;have H:=L.size;have lc:=aC A;have lg:=aC E;first
  |exact⟨_,⟨U.heap.size,N,0,R,0,.slice none 0 0⟩,rfl,NN ⟨m,o,q,r,s,t,name,d,mJ,b,f,j,k⟩ W Y O M (((L.alloc H _).drew.trans (g.mono (by simp;omega))).trans (a.mono (by omega))) ((a.block _ (by have:=g.size;simp at this;omega)).trans ((g.block _ (by simp)).trans (ah U _))) ((a.block _ lc).trans A) I E J (by omega) H (by omega) (by omega) rfl⟩
  |exact⟨_,⟨u5.heap.size,N,0,R,0,.slice none 0 0⟩,rfl,NN ⟨m,o,q,r,s,t,name,d,mJ,b,f,j,k⟩ W Y O M (((L.drew.trans (g.mono H)).alloc (by omega) _).trans (a.mono (by simp;omega))) ((a.block _ (by simp)).trans (ah u5 _)) ((a.block _ (by simp;omega)).trans ((aO _ _ _ lc).trans A)) I E J (by omega) (by omega) (by omega) (by omega) rfl⟩
  |exact⟨_,⟨u6.heap.size,N,0,R,0,.slice none 0 0⟩,rfl,NN ⟨m,o,q,r,s,t,name,d,mJ,b,f,j,k⟩ W Y O M (((L.drew.trans (g.mono H)).trans (a.mono (by omega))).alloc (by omega) _) (ah u6 _) ((aO _ _ _ (by omega)).trans ((a.block _ lc).trans A)) I ((aO _ _ _ lg).trans E) J (by omega) (by omega) (by omega) (by omega) (by simp)⟩
end Nu
namespace Nu
open Bs
open oh (U4 uw tu xL)
variable{w0 w w' x y:kV}{P:Nat->Prop}{B Q:Nat}{cs:XV}{l l':Lc}{d d':Sd}{s s':S}{v v':Value}
abbrev PZ:XV:=(rB 0 0 0 0 0 0 0 0)
def Ya(h:Mx w0 P w B l s):C_ 45 #[p_ B] w s.DX (y_ w):=by
 have r:=h.k;obtain⟨j,m,i⟩:=Dh.lH h.image;obtain⟨a,A,E,J,O,c⟩:=h.map;have I:(s.cl.length:Int)=a.size:=by rw[<-(xL h.nd).size,c];exact dF Int.ofNat (length_read a)
 have U:∀(u:kV) (d:TypeId),u.heap[l.bm]?=some (.map a A)->(Builtin.len_ #[86] d #[.map (some l.bm)]).run aD1 u=.ok (E4 s.cl.length) u:=fun u d b=>by
  rw[I];simp[Builtin.len_,gB gF,MapKept.run_getObj_map b];rfl
 have g:l.bm≠w.heap.size:=Nat.ne_of_lt (aC E);have M:∀o:Obj,(w.alloc o).drew.heap[l.bm]?=some (.map a A):=fun o=>(aO _ _ _ (aC E)).trans E;clear I J O c;have f:=mE (h.al (o:=.cells PZ 69)).dr;go_enter func45,ntmps45;go_wp2;go_region_held3 (fun u=>Cl u B (cells l s)/\u.heap[l.bm]?=some (.map a A)) (exact⟨h.al.dr.cell,M _⟩)
  (first|(go_at_call 74;refine on_ f fun u b=> ?_;subst b))
 go_wp2;go_returns
 exact⟨rfl,b1_.drew⟩
structure Bt (w0:kV) (P:Nat->Prop) (w:kV) (Q B:Nat) (l:Lc) (s:S):Prop where
 mx:Mx w0 P w B l s
 row:w.heap[Q]?=some (.cells #[p_ B] 77 (0,0))
def Bt.no(h:Bt w0 P w Q B l s): ¬lI B l Q:=by
 intro k;have g:=h.row
 rcases k with rfl|rfl|rfl|rfl|m
 ·have f:=h.mx.row
  rw[g]at f;simp only[aZ,di]at f;exact absurd f.2.1 (by decide)
 ·exact h.mx.xO g rfl
 ·obtain⟨a,b,c,d,A,f,_⟩:=h.mx.came
  rw[g]at f;simp only[aZ,di]at f;exact absurd f.2.1 (by decide)
 ·obtain⟨a,b,c,d,A,f,_⟩:=h.mx.goes
  rw[g]at f;simp only[aZ,di]at f;exact absurd f.2.1 (by decide)
 obtain⟨j,i⟩:=h.mx.zS m;rw[g]at i;simp only[aZ,di]at i;exact absurd i.2.1 (by decide)
def Bt.next(h:Bt w0 P w Q B l s)(k:Mx w (lI B l) w' B l' s'):Bt w0 P w' Q B l' s':=⟨h.mx.join k,(k.kept Q (aC h.row) h.no).trans h.row⟩
def r_(h:Bt w0 P w Q B l s):C_ 33 #[p_ Q] w (p_ B) fun u=>w=u:=by
 have k:=lT h.row;go_enter func33,ntmps33;go_wp2;go_ret;exact⟨rfl,rfl⟩
def Bm(f:Nat)(xs:XL)(s:S)(r:Value)(s':S):Prop:=
 ∀ {w0:kV} {P:Nat->Prop} {w:kV} {Q B:Nat} {l:Lc},Bt w0 P w Q B l s->C_ f ((p_ Q)::xs).toArray w r fun u=>∃l',Bt w0 P u Q B l' s'
def aj2{a:Int}(H:Ms 36 [E3 a] s (.tuple #[]) s'):Bm 21 [E3 a] s (.tuple #[]) s':=by
 intro w0 P w Q B l h;go_enter func21,ntmps21;go_wp2_with (first|(go_at_call 33;refine on_ (r_ h) fun u c=> ?_;subst c)|(go_at_call 36;refine qC H h.mx.base fun u1 d b f=> ?_));go_end0;exact⟨rfl,d,h.next b⟩
def at1{n k:Int}(H:Ms 43 [E4 n] s (E4 k) s'):Bm 23 [E4 n] s (E4 k) s':=by
 intro w0 P w Q B l h;go_enter func23,ntmps23;go_wp2_with (first|(go_at_call 33;refine on_ (r_ h) fun u b=> ?_;subst b)|(go_at_call 43;refine qC H h.mx.base fun u1 c a d=> ?_));go_ret;exact⟨rfl,c,h.next a⟩
def aB5{t:XB}{b:Bool}(H:Ms 34 [.string t] s (.bool b) s'):Bm 17 [.string t] s (.bool b) s':=by
 intro w0 P w Q B l h;go_enter func17,ntmps17;go_wp2_with (first|(go_at_call 33;refine on_ (r_ h) fun u c=> ?_;subst c)|(go_at_call 34;refine qC H h.mx.base fun u1 d a f=> ?_));go_ret;exact⟨rfl,d,h.next a⟩
def aw2{t:XB}{b:Bool}(H:Ms 35 [] s (.tuple #[.string t,.bool b]) s'):Bm 19 [] s (.tuple #[.string t,.bool b]) s':=by
 intro w0 P w Q B l h;go_enter func19,ntmps19;go_wp2_with (first|(go_at_call 33;refine on_ (r_ h) fun u c=> ?_;subst c)|(go_at_call 35;refine qC H h.mx.base fun u1 d a f=> ?_));go_ret2;exact⟨rfl,d,h.next a⟩
def al2:Bm 27 [] s s.EC s:=by
 intro w0 P w Q B l h;have c:=Us h.mx;unfold S.EC at c ⊢;generalize(if s.phase=3 then(⟨s.im.toArray⟩:XB)else⟨#[]⟩)=t at c ⊢;generalize decide (s.phase=3)=b at c ⊢;go_enter func27,ntmps27;go_wp2_with (first|(go_at_call 33;refine on_ (r_ h) fun u a=> ?_;subst a)|(go_at_call 47;refine on_ c fun u1 a=> ?_;replace a:=a.symm;subst a));go_ret2;exact⟨rfl,l,h⟩
def Wn{f:Func}{p:Tmp}{t:TypeId}(h:f.results=#[.cell p t]){a:Act}{g:Nat}{cs:XV}{R:Ending->kV->Prop}(i:a.tmps.getD p undef=(p_ g))(c:a.defers=[])(d:(loadVar t (a_ g 0)).run aD1 w=.ok (.agg cs) w)(b:R (.returned (.agg cs)) w):bodyPost aD1 f R .ret a w:=by
 have A:a.tmps[p]?.getD undef=(p_ g):=by simpa using i
 exact aQ (v:=.agg cs) (by simp[results,h,A,asAddr,d]) c b
def ax2:Bm 25 [] s s.DX s:=by
 intro w0 P w Q B l h;have H:Bt w0 P (w.alloc (.cells PZ 69)) Q B l s:=⟨h.mx.al,qH h.row⟩;have c:=Ya H.mx;go_enter func25,ntmps25;go_wp2_with (first|(go_at_call 33;refine on_ (r_ H) fun u d=> ?_;subst d)|(go_at_call 45;refine on_ c fun u1 a=> ?_;have b:u1.heap[w.heap.size]?=some (.cells PZ 69 (0,0)):=(a.block _ (by simp)).trans (ah w _))|refine eH rfl 69 (.tmp 2) (.tmp 5) rfl w.heap.size _ rfl rfl 69 _ b (by kernel_rfl) (by kernel_rfl) (by kernel_rfl) ?_);have q:=Rd.zX (g:=w.heap.size) (b1_.trans (a.mono (by simp))) (ae _);have e:=cO _ _ _ (rB s.now s.st s.phase s.addr s.qV s.im.length s.lost s.cl.length) _ _ b;refine Wn results25 rfl rfl (iC _ _ _ _ _ _ _ e underlying69 rfl (by kernel_rfl)) ⟨rfl,l,h.mx.below (q _),?_⟩;rw[(q _).block Q (aC h.row)];exact h.row
end Nu
namespace Nu
open Bs
variable{w0 w w' x y:kV}{P:Nat->Prop}{B Q:Nat}{cs:XV}{l l':Lc}{d d':Sd}{s s':S}{v v':Value}
def Mw.under(h:Mw w (fun _=>False) w' B cs l d)(a:y_ w0 w)(E:9<=w0.heap.size)(A:Gl w0):Mw w0 (fun _=>False) w' B cs l d:=
 {h with os:=h.os.trans a.os,tape:=h.tape.trans a.tape,output:=h.output.trans a.output,size:=aJ a.size h.size,
           kept:=fun k b c=>(h.kept k (aW b a.size) c).trans (a.block k b),
           own:=fun k b=>(h.own k b).imp id (aJ a.size),low:=⟨E,fun _ h=>h.elim⟩,gl:=A}
def aC1(c:Cg)(A:9<=w.heap.size)(E:Gl w):D_ 15 #[.agg c.c] w fun e u=>if c.ok=true then ∃Q B l,e=.returned (.tuple #[p_ Q,E4 0])/\w.heap.size<=Q/\Bt w (fun _=>False) u Q B l c.s0 else e=.returned (.tuple #[.pointer none,E4 8])/\y_ w u:=by
 have a:y_ w (w.alloc (.cells c.c 28)):=(aK _ _).alloc (ae _) _;have b:=JW c (aJ A a.size) (E.below a A)
 cases ho:c.ok
 all_goals
  rw[ho]at b;simp only[aY,bI,bD]at b ⊢;go_enter func15,ntmps15;go_wp2_with (go_at_call 30;refine b.mono ?_;first|rintro _ u1 ⟨B,l,rfl,f⟩|rintro _ u1 ⟨rfl,d⟩);go_ret2;first|exact⟨_,B,l,rfl,aJ a.size f.size,(f.under a A E).al,ah _ _⟩|exact⟨rfl,a.trans (d.mono a.size)⟩
end Nu
end Go.Proofs.YtnbaacgmlbhhcaaGreatDoor
