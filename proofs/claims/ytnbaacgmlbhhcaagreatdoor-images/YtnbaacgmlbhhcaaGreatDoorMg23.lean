import Derived.Test.YtnbaacgmlbhhcaaGreatDoorMg24
set_option linter.all false
set_option maxHeartbeats 8000000
set_option maxRecDepth 10000
open Go.ChangeShapes Go.WideShapes Go.ChangeAt Go.RowKit
open Go renaming World → kV
open Go.Value renaming int → aC6
open Go.IntKind renaming u8 → aC7, u16 → aC8, u32 → aC9, i64 → aD0
open Go.Proofs.Tryz
namespace Go.Proofs.YtnbaacgmlbhhcaaGreatDoor
namespace Nr
open Bs Nu
open oh (Nb tu Nb.more Nb.gone)
variable{w0 w w':kV}{P:Nat->Prop}{G te z n:Nat}{cs:XV}{l l':Lr}{d d':Sd}{s s':S}{x x':X}{v:Value}{xs:XL}
abbrev al7(w0:kV)(G:Nat)(l:Lr)(w:kV)(v:Value)(c:List (Int×Nb)):Prop:=Own w0 G l w 105 11 v c.length (c.flatMap sw)
abbrev am5(w0:kV)(G:Nat)(l:Lr)(w:kV)(v:Value)(A:XI):Prop:=Own w0 G l w 53 1 v A.length (A.map (aC6 aC9))
def af8(e:Int×Nb):∀u ∈ sw e,u.oneCell'=true:=by simp[sw,Value.oneCell']
def lens{c:List (Int×Nb)}{now:Int}{k n:Nat}(d:k<=n)(f:(n:Int)<=100):(GA now (c.take k)).length+1<=1000/\(tK now (c.take k)).length+1<=1000:=by
 have a:(GA now (c.take k)).length<=(c.take k).length:=List.length_filterMap_le ..;have b:(tK now (c.take k)).length<=(c.take k).length:=by unfold tK;rw[eu];exact List.length_filter_le ..
 rw[aX]at a b;omega
def Own.sa(h:Own w0 G l w te z v n xs){k j:Nat}{y:Value}(a:v.ownBlock≠some k):Own w0 G l (w.setCell (a_ k j) y) te z v n xs:=h.same fun i b e=>aD _ _ _ _ (fun q=>a (by rw[e,q]))
def Own.ne(h:Own w0 G l w te z v n xs){k:Nat}(a:w.heap.size<=k):v.ownBlock≠some k:=fun e=>by have:=xU h.1 e;omega
def Own.next(h:Own w0 G l w te z v n xs)(k:Mv w (lI G l) w' G cs l' d'):Own w0 G l' w' te z v n xs:=
 ⟨lJ h.1 fun b a=>k.kept b (xU h.1 a) (h.2 b a).1,fun b a=>⟨fun c=>by
  rcases k.own b c with q|q
  ·exact(h.2 b a).1 q
  have:=xU h.1 a;omega,(h.2 b a).2⟩⟩
def Own.at2{v2:Value}{m:Nat}{C:XL}(h:Own w0 G l w 53 1 v n xs)(y:w.ownsRow 0 105 11 v2 m C):Own w0 G {l with sl:=fun j=>if j=2 then v2 else l.sl j} w 53 1 v n xs:=⟨h.1,fun b a=>⟨by
 rintro (rfl|⟨i,z,e⟩)
 ·exact(h.2 _ a).1 (aG rfl)
 dsimp only at e
 split at e
 ·rcases h.1.2 with⟨t,_⟩|⟨g,k,o,p,D,q,F⟩
  ·rw[t]at a;cases a
  rcases y.2 with⟨B,_⟩|⟨s,A,E,r,H,c,I⟩
  ·rw[B]at e;cases e
  rw[p]at a;rw[r]at e;have d:g=b:=aV a;have f:s=b:=aV e;subst d f;rw[q]at c;simp only[aZ,di]at c;exact absurd c.2.1 (by decide)
 exact(h.2 b a).1 (aF ⟨i,z,e⟩),(h.2 b a).2⟩⟩
def UD(w:kV)(a b:Obj)(n:Nat):(((w.alloc a).drewN n).alloc b).heap[w.heap.size+1]?=some b:=oh.mK w a b
abbrev Ai(e:Int×Nb)(A B:Int):XV:=#[aC6 aC9 e.1,aC6 aC7 e.2.k0.toNat,aC6 aC7 e.2.k1.toNat,aC6 aC7 e.2.k2.toNat,aC6 aC7 e.2.k3.toNat,aC6 aC7 e.2.k4.toNat,aC6 aC7 e.2.k5.toNat,.bool false,aC6 aD0 B,aC6 aD0 A,.string e.2.load]
def az7(w:kV)(e:Int×Nb)(n:Nat)(a b A B:Int)(o:Obj):((((((w.alloc (.cells (Ai e a b) 105)).drewN n).setCell (n_ w 9) (aC6 aD0 A)).setCell (n_ w 8) (aC6 aD0 B)).alloc o).heap[w.heap.size]?=some (.cells (Ai e A B) 105 (0,0)))/\((((((w.alloc (.cells (Ai e a b) 105)).drewN n).setCell (n_ w 9) (aC6 aD0 A)).setCell (n_ w 8) (aC6 aD0 B)).alloc o).heap[w.heap.size+1]?=some o):=by
 have c:((w.alloc (.cells (Ai e a b) 105)).drewN n).heap[w.heap.size]?=some (.cells (Ai e a b) 105 (0,0)):=ah w _;have d:(((w.alloc (.cells (Ai e a b) 105)).drewN n).setCell (n_ w 9) (aC6 aD0 A)).heap[w.heap.size]?=some (.cells (Ai e A b) 105 (0,0)):=by rw[bS _ _ 9 _ _ _ _ c,cO _ _ _ _ _ _ c];rfl
 have f:((((w.alloc (.cells (Ai e a b) 105)).drewN n).setCell (n_ w 9) (aC6 aD0 A)).setCell (n_ w 8) (aC6 aD0 B)).heap[w.heap.size]?=some (.cells (Ai e A B) 105 (0,0)):=by rw[bS _ _ 8 _ _ _ _ d,cO _ _ _ _ _ _ d];rfl
 have g:((((w.alloc (.cells (Ai e a b) 105)).drewN n).setCell (n_ w 9) (aC6 aD0 A)).setCell (n_ w 8) (aC6 aD0 B)).heap.size=w.heap.size+1:=by simp[World.setCell,World.drewN]
 exact⟨(aO _ _ _ (aC f)).trans f,by rw[<-g];exact ah _ _⟩
def Zm(L:XI):∀u ∈ L.map (aC6 aC9),u.oneCell'=true:=fun u a=>by
 obtain⟨y,_,rfl⟩:=dL.1 a;rfl
def PN{g a m:Nat}{A:XI}(h:∀j,j<A.length->w.cell? (a_ g j)=some (aC6 aC9 (A.getD j 0)))(j:Nat)(u:Value)(b:(((A.drop a).take m).map (aC6 aC9))[j]?=some u):w.cell? (((a_ g a):Addr).add j)=some u:=by
 rw[dY,gY]at b
 split at b
 ·rw[jQ]at b
  cases hq:A[a+j]? with
  |none=>rw[hq]at b;cases b
  |some y=>
   rw[hq]at b;injection b with b
   have:=h (a+j) (cB.1 hq).1;rw[aL,hq,eD,b]at this;rw[Addr.add_lit];exact this
 cases b
def ab4{c:Prop}[Decidable c]{x y:Addr}{m n:Nat}:Value.slice (if c then some x else some y) m n=.slice (some (if c then x else y)) m n:=by split<;>rfl
def ae6{g f k c:Nat}{A:XI}(d:(k:Int)<=c)(b:f<k)(h:∀j,j<A.length->w.cell? (a_ g j)=some (aC6 aC9 (A.getD j 0)))(j:Nat)(u:Value)(a:(((A.drop (f+1)).take (k-(f+1))).map (aC6 aC9))[j]?=some u):w.cell? ((if c=f+1 then(a_ g 0)else(a_ g (f+1)):Addr).add j)=some u:=by
 split
 ·rw[show k-(f+1)=0 by omega]at a
  simp at a
 exact PN h j u a
def M7{A:XI}{f k:Nat}(b:k=A.length)(a:f<k):0+f+(k-(f+1))=(A.eraseIdx f).length/\([]++((A.drop 0).take f).map (aC6 aC9))++((A.drop (f+1)).take (k-(f+1))).map (aC6 aC9)=(A.eraseIdx f).map (aC6 aC9):=by
 refine⟨by rw[jC,aB (by omega)];omega,?_⟩;have q:(A.drop (f+1)).take (k-(f+1))=A.drop (f+1):=bF (by simp;omega);rw[q,List.eraseIdx_eq_take_drop_succ,dz];rfl
def Vz{b n c:Nat}{a:XO}{A:XI}(h:w.ownsRow b 53 1 (.slice a n c) n (A.map (aC6 aC9)))(f:n=A.length)(o:0<n):∃g,a=some (a_ g 0)/\(n:Int)<=c/\∀j,j<n->w.cell? (a_ g j)=some (aC6 aC9 (A.getD j 0)):=by
 obtain⟨g,_,d,_⟩:=VQ h o f;refine⟨g,d,?_,fun j r=> ?_⟩
 ·rcases h.2 with⟨_,D⟩|⟨k,i,l,m,t,v,z,B⟩
  ·omega
  injection m with _ _ q;omega
 obtain⟨C,y,E,s,p⟩:=VQ h r f;rw[d]at E;injection E with E
 injection E with E
 rw[aL,s,E];exact p
def ED(o:s.Ok)(b0:(s.cl.map (·.1)).Nodup)(b7:s.cl.length<=100)(a8:∀e ∈ s.cl,0<=e.1/\e.1<=4294967295)(ht:∀e ∈ s.cl,s.now<=e.2.till)(a0:∀e ∈ s.cl,0<=e.2.asks/\e.2.asks<=3):Rs 38 [] s (.tuple #[]) s.Bg:=by
 rw[SG b0 ht];intro w0 P w G l x h;have r:=h.m.k;obtain⟨ao,cp,hv⟩:∃ao cp,l.sl 2=.slice ao s.cl.length cp:=h.m.slice (by decide);obtain⟨n,D⟩:=ex_ s.cl.length;obtain⟨T,Z⟩:=ex_ ((ord (tK s.now s.cl).length (tK s.now s.cl)).foldl S.ask {s with cl:=GA s.now s.cl});rw[<-Z];rw[<-D]at hv;have O:(n:Int)<=100:=by omega
 replace D:=ll D
 replace Z:=ll Z
 have H:=ll h.m;go_enter func38,ntmps38;go_wp2;go_loopw [2,3,14] (fun v2 v3 i wr=>∃k:Nat,i=aC6 aD0 k/\k<=n/\Hid (Mv w0 P wr G (rc l s x) l s.toSd)/\Hid (al7 w0 G l wr v2 (GA s.now (s.cl.take k)))/\Hid (am5 w0 G l wr v3 (tK s.now (s.cl.take k)))) (fun _ _ i _=>n-(intOf i).toNat)
 case atStart=>exact⟨0,rfl,aR _,H,ll Own.nil,ll Own.nil⟩
 clear r;obtain⟨k,rfl,hk,N,L,HI⟩:=hrel;have r:=N.out.k
 by_cases hkk:k<n
 ·obtain⟨g,b4,e,hs,he,hg,b6,q0,q1,q2,q3,q4,q5,q6,q7,q8,q9,q10⟩:=N.out.at_ (show k<s.cl.length by rw[<-D.out];exact hkk)
  rw[hv]at hs;injection hs with hs1 hs2 hs3
  subst hs1 hs3;clear hs2;have a9:(k:Int)<n:=by omega
  have t:=ll (Vu (now:=s.now) he);have b:=ll (Uh (now:=s.now) he);replace he:=ll he
  have F:Hid ((GA s.now (s.cl.take k)).length+1<=1000/\(tK s.now (s.cl.take k)).length+1<=1000):=ll (lens hk O);have ways:=ll (by unfold Gp Nb.gone;rfl:Gp s.now e=if(decide (e.2.till<=s.now) && (e.2.asks==0||e.2.asks==3))=true then none else if e.2.till<=s.now then some (e.1,{e.2 with asks:=wrap64 (e.2.asks+1),till:=wrap64 (e.2.till+2)})else some e)
  rcases(by cases decide (e.2.till<=s.now)<;>cases (e.2.asks==0)<;>cases (e.2.asks==3)<;>simp:decide (e.2.till<=s.now)=false∨decide (e.2.till<=s.now)=true/\((e.2.asks==0)=true∨(e.2.asks==0)=false/\((e.2.asks==3)=true∨(e.2.asks==3)=false)))with t1|⟨t1,t2|⟨t2,t3|t3⟩⟩
  case inr.inl|inr.inr.inl=>
   have e1:Hid (GA s.now (s.cl.take (k+1))=GA s.now (s.cl.take k)/\tK s.now (s.cl.take (k+1))=tK s.now (s.cl.take k)):=ll (by
    rw[t.out,b.out,ways.out]
    unfold Nb.gone
    simp[*])
   clear t b ways;go_wp2;go_quiet (fail);go_wp2;go_roundw
   case rel=>exact⟨k+1,by go_num,by omega,ll N.out.al.dn,ll (by rw[e1.out.1];exact L.out.al.dn),ll (by rw[e1.out.2];exact HI.out.al.dn)⟩
   simp[intOf];omega
  case inl=>
   have e1:Hid (GA s.now (s.cl.take (k+1))=GA s.now (s.cl.take k)++ [e]/\tK s.now (s.cl.take (k+1))=tK s.now (s.cl.take k)):=ll (by
    have U: ¬e.2.till<=s.now:=by simpa using t1
    rw[t.out,b.out,ways.out]
    unfold Nb.gone
    simp[t1,U])
   clear t b ways;go_wp2;go_quiet (fail);go_wp2;go_quiet (fail);go_wp2_with (at_builtin;refine Own.app rfl (.tmp 54) (.tmp 56) rfl underlying51 VT rfl (by decide) N.out.al.dn.al L.out.al.dn.al rfl rfl (news:=sw e) rfl (zR (UD _ _ _ _)) (af8 e) ⟨F.out.1,by decide⟩ fun v5 u5 ho5 h5 C=> ?_);go_roundw
   case rel=>exact⟨k+1,by go_num,by omega,ll h5,ll (by rw[e1.out.1,al7,au,dH];simpa using ho5),ll (by rw[e1.out.2];exact HI.out.al.dn.al.other L.out.al.dn.al.1 C (by decide))⟩
   simp[intOf];omega
  case inr.inr.inr=>
   have e1:Hid (GA s.now (s.cl.take (k+1))=GA s.now (s.cl.take k)++ [(e.1,{e.2 with asks:=wrap64 (e.2.asks+1),till:=wrap64 (e.2.till+2)})]/\tK s.now (s.cl.take (k+1))=tK s.now (s.cl.take k)++ [e.1]):=ll (by
    have U:e.2.till<=s.now:=by simpa using t1
    rw[t.out,b.out,ways.out]
    unfold Nb.gone
    simp[t1,U,t2,t3])
   clear t b ways;go_wp2;go_quiet (fail);go_wp2;go_quiet (fail);have ne3:=HI.out.ne (ae _);have ne2:=L.out.ne (ae _);have ha0:=a0 e (jB he.out);have hw:(wrap64 (e.2.asks+1)==0)=false:=aP.2 (by unfold wrap64;omega);clear ha0;replace hw:=ll hw
   have hO:Out w0 G l wr.heap.size:=N.out.out 0;have H1:=ll (fun(n:Nat) (o:Obj)=>((((N.out.al (o:=.cells (Ai e e.2.asks e.2.till) 105)).dn (n:=n)).sa (j:=9) (v:=aC6 aD0 (wrap64 (e.2.asks+1))) hO).sa (j:=8) (v:=aC6 aD0 (wrap64 (e.2.till+2))) hO).al (o:=o));have H2:=ll (fun(n:Nat) (o:Obj)=>((((HI.out.al (o:=.cells (Ai e e.2.asks e.2.till) 105)).dn (k:=n)).sa (j:=9) (y:=aC6 aD0 (wrap64 (e.2.asks+1))) ne3).sa (j:=8) (y:=aC6 aD0 (wrap64 (e.2.till+2))) ne3).al (o:=o));have H3:=ll (fun(n:Nat) (o:Obj)=>az7 wr e n e.2.asks e.2.till (wrap64 (e.2.asks+1)) (wrap64 (e.2.till+2)) o);have H4:=ll (fun(n:Nat) (o:Obj)=>((((L.out.al (o:=.cells (Ai e e.2.asks e.2.till) 105)).dn (k:=n)).sa (j:=9) (y:=aC6 aD0 (wrap64 (e.2.asks+1))) ne2).sa (j:=8) (y:=aC6 aD0 (wrap64 (e.2.till+2))) ne2).al (o:=o));go_wp2_with (first|(at_builtin;refine Own.app rfl (.tmp 49) (.tmp 52) rfl underlying103 Gn rfl (by decide) (H1.out _ _) (H2.out _ _) rfl rfl (news:=[aC6 aC9 e.1]) rfl (zR (H3.out _ _).2) (by simp[Value.oneCell']) ⟨F.out.2,by decide⟩ fun v5 u5 ho5 h5 C=> ?_;have r5:=lT ((C.block _ (aC (H3.out _ _).1) (fun q=>ne3 q.symm)).trans (H3.out _ _).1);have E5:=ll ((H4.out _ _).other (H2.out _ _).1 C (by decide));have O5:=ll ho5;clear ho5 C)|(at_builtin;refine Own.app rfl (.tmp 54) (.tmp 56) rfl underlying51 VT rfl (by decide) h5.al E5.out.al rfl rfl (news:=(Ai e (wrap64 (e.2.asks+1)) (wrap64 (e.2.till+2))).toList) rfl (zR (ah _ _)) (by simp[Value.oneCell']) ⟨F.out.1,by decide⟩ fun v6 u6 ho6 h6 hg6=> ?_));go_roundw
   case rel=>exact⟨k+1,by go_num,by omega,ll h6,ll (by
    rw[e1.out.1,al7,au,dH]
    have q:List.flatMap sw [(e.1,{e.2 with asks:=wrap64 (e.2.asks+1),till:=wrap64 (e.2.till+2)})]=(Ai e (wrap64 (e.2.asks+1)) (wrap64 (e.2.till+2))).toList:=by simp[sw,hw.out]
    rw[q];exact ho6),ll (by rw[e1.out.2,am5,au,dz];exact O5.out.al.other E5.out.al.1 hg6 (by decide))⟩
   simp[intOf];omega
 have ek:k=n:=by omega
 subst ek;have hk2: ¬(k:Int)<k:=by omega
 have ev:s.cl.take k=s.cl:=by rw[D.out];exact bJ
 rw[ev]at L HI;clear ev r;have hA:∀a ∈ tK s.now s.cl,0<=a/\a<=4294967295:=fun a ha=>by
  obtain⟨e,he,rfl⟩:=dL.1 ha;exact a8 e (gV.1 he).1
 have J:=(lens (c:=s.cl) (now:=s.now) (ae k) O).2;have ev:s.cl.take k=s.cl:=by rw[D.out];exact bJ
 rw[ev]at J;clear ev;generalize tK s.now s.cl=A0 at*;obtain⟨a2,c2,Y⟩:=L.out.slice;subst Y;have M2:=ll ((N.out.az2 2 (by decide) (d':={s.toSd with cl:=GA s.now s.cl}) L.out (fun j hj D=>by match j,hj,D with|0,_,_=>exact⟨rfl,rfl⟩|1,_,_=>exact⟨rfl,rfl⟩|3,_,_=>exact⟨rfl,rfl⟩|2,_,D=>exact absurd rfl D) N.out.few).st (j:=21) (v:=.slice a2 (GA s.now s.cl).length c2)|>.z (x':=x) (s':={s with cl:=GA s.now s.cl}) (by kernel_rfl) rfl h.iv);have I2:=ll ((HI.out.at2 L.out.1).sa (k:=G) (j:=21) (y:=.slice a2 (GA s.now s.cl).length c2) (fun q=>(HI.out.2 G q).1 (aG rfl)));clear L HI H;generalize hS2:({s with cl:=GA s.now s.cl}:S)=s2 at*;have o2:s2.Ok:=hS2▸o;replace o2:=ll o2
 have r:=N.out.k;go_wp2;go_loopw [3] (fun v3 wr=>∃(A:XI) (z:S) (l2:Lr) (x2:X),Hid ((l2.n=l.n/\l2.tb=l.tb)/\z.Ok/\T=(ord A.length A).foldl S.ask z/\(∀a ∈ A,0<=a/\a<=4294967295))/\A.length+1<=1000/\Hid (Mz w0 P wr G l2 x2 z)/\Hid (am5 w0 G l2 wr v3 A)) (fun v3 _=>match v3 with| .slice _ n _=>n|_=>0)
 case atStart=>exact⟨A0,s2,{l with sl:=fun j=>if j=2 then .slice a2 (GA s.now s.cl).length c2 else l.sl j},x,ll ⟨⟨rfl,rfl⟩,o2.out,Z.out,hA⟩,J,M2,I2⟩
 clear r N M2 I2 Z hA J D hS2 o2 O h hv;rename kV=>wr;obtain⟨A,z,l2,x2,V,hA9,B,b⟩:=hrel;obtain⟨a3,c3,rfl⟩:=b.out.slice;have r:=B.out.m.k;obtain⟨m,hm⟩:=ex_ A.length;have R:=b.out.1;rw[<-hm]at hA9 R ⊢;replace R:=ll R
 have d:=ll hm;clear hm
 by_cases h0:0<m
 ·obtain⟨g,rfl,a4,M⟩:=Vz R.out d.out h0
  have hi0:(0:Int)<m:=by omega
  have b8:(m:Int)<=1000:=by omega
  have HC:=ll M;clear M;go_wp2;go_loopw [6,68] (fun f i b2=>∃k:Nat,f=aC6 aD0 (JH A k)/\i=aC6 aD0 k/\k<=m/\Hid (∃n,b2=wr.drewN n)) (fun _ i _=>m-(intOf i).toNat)
  case atStart=>exact⟨0,rfl,rfl,aR _,ll ⟨0,rfl⟩⟩
  obtain⟨k,rfl,rfl,hk,HD⟩:=hrel;obtain⟨nd,rfl⟩:=HD.out;have E:=JQ A k (by have:=d.out;omega) (by have:=d.out;omega);rw[<-d.out]at E
  by_cases hkk:k<m
  ·have q1:=HC.out k hkk
   have q2:=HC.out _ E;have F:Hid (JH A (k+1)=if A.getD k 0<A.getD (JH A k) 0 then k else JH A k):=ll rfl;generalize JH A k=f at*;have a9:(k:Int)<m:=by omega
   have b5:(f:Int)<m:=by omega
   generalize A.getD k 0=y1 at*;generalize A.getD f 0=y2 at*
   cases hd:decide (y1<y2)
   all_goals
    have a6:=ll hd;simp only[dA,bT]at hd;replace F:=F.out
    simp only[hd,bI,bD]at F;replace F:=ll F
    clear hd;have hd:=a6.out;go_wp2;go_quiet (fail);go_wp2;go_roundw
    case rel=>exact⟨k+1,by rw[F.out],by go_num,by omega,ll ⟨_,rfl⟩⟩
    simp[intOf];omega
  have ek:k=m:=by omega
  subst ek;have hk2: ¬(k:Int)<k:=by omega
  have b3:((JH A k:Nat):Int)+1<=k:=by omega
  have q2:=HC.out _ E;have Z:=V.out.2.2.1;obtain⟨m1,hm1⟩:∃m1,A.length=m1+1:=⟨A.length-1,by have:=d.out;omega⟩;have hA0: ¬A=[]:=fun e=>by rw[e]at hm1;cases hm1
  rw[hm1,ord,az hA0,show least A=JH A k by rw[least,d.out],jP]at Z;have ha:=V.out.2.2.2 (A.getD (JH A k) 0) (by rw[aL,aN (by have:=d.out;omega)];exact dw _);have W:=fun {w0 P w G l x} h=> @zK z z.addr (A.getD (JH A k) 0) (t_ V.out.2.1) ha w0 P w G l x h;have HT:=ll Z;clear Z;generalize hf:JH A k=f at*;generalize hav:A.getD f 0=av at*;replace hf:=ll hf
  replace hav:=ll hav
  have I:=ll (B.out.m.dn (n:=nd));go_wp2;go_region_held3 (fun u=>u.cell? (a_ g f)=some (aC6 aC9 av)) (first|exact q2|exact q3)
   (first|(go_at_call 46;refine on_ (mE ⟨I.out.dr,B.out.iv⟩) fun u hu=> ?_;subst hu)|(go_at_call 57;refine vC W ⟨I.out.dr.base,B.out.iv⟩ fun u3 l3 x3 e3 h3 r3=> ?_;have O3:=ll ((b.out.dn (k:=nd)).dr.next h3.m);have q3:u3.cell? (a_ g f)=some (aC6 aC9 av):=(bC (h3.m.kept g (dC _ _ q2) ((b.out.2 g rfl).1))).trans q2;have C3:Hid (∀j,j<A.length->u3.cell? (a_ g j)=some (aC6 aC9 (A.getD j 0))):=ll (fun j hj=>(bC (h3.m.kept g (dC _ _ q2) ((b.out.2 g rfl).1))).trans (HC.out j (by have:=d.out;omega)));have M3:=ll (I.out.dr.join h3.m e3)))
  go_wp2_with (first|(at_builtin;refine Own.app rfl (.tmp 94) (.tmp 98) rfl underlying103 Gn rfl (by decide) h6 O6.out rfl ab4 (news:=((A.drop (f+1)).take (k-(f+1))).map (aC6 aC9)) (by have:=d.out;simp;omega) (ae6 a4 E C6.out) (Zm _) ⟨by omega,by decide⟩ fun v7 u7 ho7 h7 hg7=> ?_)|(at_builtin;refine Own.app rfl (.const (.slice none 0 0)) (.tmp 92) rfl underlying103 Gn rfl (by decide) M3.out Own.nil rfl rfl (news:=((A.drop 0).take f).map (aC6 aC9)) (by have:=d.out;simp;omega) (PN C3.out) (Zm _) ⟨by omega,by decide⟩ fun v6 u6 ho6 h6 hg6=> ?_;have C6:Hid (∀j,j<A.length->u6.cell? (a_ g j)=some (aC6 aC9 (A.getD j 0))):=ll (fun j hj=>(bC (hg6.block g (dC _ _ q3) (fun q=>by cases q))).trans (C3.out j hj));clear hg6;have O6:=ll ho6;clear ho6));have e7:=M7 d.out E;rw[e7.1,e7.2]at ho7;obtain⟨a7,c7,rfl⟩:=ho7.slice;have el:(A.eraseIdx f).length=m1:=by rw[jC,aB (by have:=d.out;omega)];omega
  go_roundw
  case rel=>exact⟨A.eraseIdx f,z.bd3 z.addr av,l3,x3,ll ⟨⟨e3.1.trans V.out.1.1,e3.2.trans V.out.1.2⟩,V.out.2.1,by rw[el];exact HT.out,fun a ha=>V.out.2.2.2 a (List.eraseIdx_subset ha)⟩,by omega,ll ⟨h7,h3.iv⟩,ll ho7⟩
  show(A.eraseIdx f).length<k;have:=d.out;omega
 have e0:m=0:=by omega
 subst e0;have hA0:A=[]:=dD d.out.symm;have eT:=V.out.2.2.1;rw[hA0]at eT;have HT:Hid (T=z):=ll eT;clear eT hA0;go_wp2;go_end0;exact⟨rfl,by rw[HT.out];exact B.out.p V.out.1⟩
end Nr
end Go.Proofs.YtnbaacgmlbhhcaaGreatDoor
