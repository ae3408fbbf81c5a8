import Derived.Test.YtnbaacgmlbhhcaaGreatDoorMg22
import Derived.Test.YtnbaacgmlbhhcaaGreatDoorMg24
import Derived.Test.YtnbaacgmlbhhcaaGreatDoorMg28
import Derived.Test.YtnbaacgmlbhhcaaGreatDoorMg30
import Derived.Test.YtnbaacgmlbhhcaaGreatDoorMg43
set_option linter.all false
set_option maxHeartbeats 16000000
set_option maxRecDepth 10000
open Go.ChangeShapes Go.WideShapes Go.ChangeAt Go.RowKit
open Go renaming World → kV
open Go.Value renaming int → aC6
open Go.IntKind renaming u8 → aC7, u16 → aC8, u32 → aC9, i64 → aD0
open Go.Proofs.Tryz
namespace Go.Proofs.YtnbaacgmlbhhcaaGreatDoor
namespace Nr
open Bs Nu
open oh (Nb tu YB uo wE)
open Dh (lU lQ heavy)
variable{w0 w w' u u':kV}{P:Nat->Prop}{G b:Nat}{cs:XV}{l l':Lr}{d d':Sd}{s s' z:S}{x x':X}{v v' lv:Value}
def ZF(a:Int)(h:0<=a/\a<=4294967295)(w:kV):C_ 91 #[aC6 aC9 a] w (.string ⟨(nu a).toArray⟩) (y_ w):=by
 rw[<-xJ.FV];exact Rb.XP a w h.1 h.2
def Mv.c2(h:Mv w0 P u G (rc l s x) l d):u.cell? (a_ G 24)=some (aC6 aC9 s.nZ)/\u.cell? (a_ G 27)=some (aC6 aC9 s.qJ):=⟨h.k.1 24,h.k.1 27⟩
def _root_.Go.Proofs.YtnbaacgmlbhhcaaGreatDoor.Nu.S.bd4(s:S):S:=if s.st=1 then s.say 1 []else s.say 3 s.Da
def MB(o:s.Ok):Rs 59 [] s (.tuple #[]) s.bd4:=by
 intro w0 P w G l x h;have r:=h.m.k;unfold S.bd4
 by_cases a:s.st=1
 ·have A:(s.st==1)=true:=bK.2 a
  rw[aB a];clear a;go_enter func59,ntmps59;go_wp2_with (go_at_call 62;refine on_ (uO h o 1 false BJ (by decide) (by decide) (fun e=>by cases e) (fun _=>rfl)) fun u1 b=> ?_);go_end0;exact⟨rfl,b⟩
 have A:(s.st==1)=false:=aP.2 a;rw[az a];clear a;have n:=fun u=>ZF s.nZ o.nZ u;have p:=fun u=>ZF s.qJ o.qJ u;go_enter func59,ntmps59;go_wp2;go_region_held3 (fun u=>u.cell? (a_ G 24)=some (aC6 aC9 s.nZ)/\u.cell? (a_ G 27)=some (aC6 aC9 s.qJ)) (first|exact q|((refine Mv.c2 (w0:=w0) (P:=P) (l:=l) (x:=x) (d:=s.toSd) ?_;repeat with_reducible first|exact b|exact c|refine Mv.dr ?_|refine Mv.al ?_|exact h.m)))
  (first|(go_at_call_of 91 (aC6 aC9 s.nZ);refine on_ (n _) fun u1 f=> ?_;have b:Mv w0 P u1 G (rc l s x) l s.toSd:=Mv.below (by repeat with_reducible first|exact c|refine Mv.dr ?_|exact h.m) f)|(go_at_call_of 91 (aC6 aC9 s.qJ);refine on_ (p _) fun u2 g=> ?_;have c:Mv w0 P u2 G (rc l s x) l s.toSd:=Mv.below (by repeat with_reducible first|exact b|refine Mv.dr ?_|exact h.m) g)|(go_at_call 62;refine on_ (uO (s:=s) (x:=x) (l:=l) (w0:=w0) (P:=P) ⟨by repeat with_reducible first|exact c|exact b|refine Mv.al ?_,h.iv⟩ o 3 false (os:=s.Da) (aF ⟨_,rfl,ah _ _⟩) (yT s).1 (yT s).2 (fun e=>by cases e) (fun _=>rfl)) fun u3 i=> ?_;have q:u3.cell? (a_ G 24)=some (aC6 aC9 s.nZ)/\u3.cell? (a_ G 27)=some (aC6 aC9 s.qJ):=by obtain⟨v,y,t,j⟩:=i;exact⟨j.m.k.1 24,j.m.k.1 27⟩))
 all_goals
  go_wp2;go_end0;exact⟨rfl,i⟩
def LA(o:s.Ok)(k:Int)(n:k=1∨k=2):Rs 58 [aC6 aD0 k] s (.tuple #[]) (s.enter k):=by
 intro w0 P w G l x h;have r:=h.m.k;have d:= @MB {s with st:=k,ws:=1,wu:=wrap64 (s.now+s.qp 0)} o;have b:s.enter k=S.bd4 {s with st:=k,ws:=1,wu:=wrap64 (s.now+s.qp 0)}:=rfl;rw[b];clear b;generalize S.bd4 {s with st:=k,ws:=1,wu:=wrap64 (s.now+s.qp 0)}=z at*;have a:Mv w0 P ((w.setCell (a_ G 22) (aC6 aD0 k)).setCell (a_ G 33) (aC6 aD0 1)) G (rc l {s with st:=k,ws:=1} x) l s.toSd:=h.m.st.st;have c:=fun {u:kV} (r:Kn u G (rc l {s with st:=k,ws:=1} x))=>JS (s:={s with st:=k,ws:=1}) o r 0 (by decide);rw[show S.qp {s with st:=k,ws:=1} 0=s.qp 0 from rfl]at c;generalize s.qp 0=tk at*;go_enter func58,ntmps58;go_wp2;have f:=a.k.1 16;go_region_held3 (fun u=>u.cell? (a_ G 16)=some (aC6 aD0 s.now)) (first|exact a.dr.k.1 16|exact a.dr.st.k.1 16)
  (first|(go_at_call 41;refine on_ (c a.dr.k) fun u j=> ?_;subst j))
 rw[Gf];go_wp2_with (go_at_call 59;refine vC d (a.dr.st.z (x':={x with again:=wrap64 (s.now+tk)}) rfl rfl ⟨h.iv.b1,h.iv.id,h.iv.nx,fun _=>rfl,fun e=>by dsimp only at e;omega,fun e=>by dsimp only at e;omega⟩) fun u2 q v g i t=> ?_);go_end0;exact⟨rfl,i.p g⟩
end Nr
namespace Nr
open Bs Nu
open oh (Nb tu)
variable{w0 w w' u u':kV}{P:Nat->Prop}{G b:Nat}{cs:XV}{l l':Lr}{d d':Sd}{s s' z:S}{x x':X}{v v' lv:Value}
structure UdF (st:Int) (cl:List (Int×Nb)):Prop where
 st:4<=st
 nd:(cl.map (·.1)).Nodup
 le:cl.length<=100
 ld:∀e ∈ cl,e.2.load.size<=262144
abbrev _root_.Go.Proofs.YtnbaacgmlbhhcaaGreatDoor.Nu.S.Ud(s:S):Prop:=UdF s.st s.cl
def Xy(o:s.Ok)(k:s.Ud)(a f t:Int)(load:XB)(A:0<=a/\a<=4294967295)(b:0<=f/\f<=65535)(c:0<=t/\t<=65535)(d:load.size<=262144):Rs 63 [E3 a,E4 f,E4 t,.string load] s (.tuple #[]) (s.su a f t load):=aa9 o k.st k.nd k.le k.ld a f t load A b c d
def IZ(s:S)(a f t:Int)(load:XB):(s.su a f t load).pz=s.pz/\(s.su a f t load).port=s.port/\(s.su a f t load).sT=s.sT:=by
 obtain⟨i,c,q,z,e⟩:=xB s a f t load;rw[e];exact⟨rfl,rfl,rfl⟩
def Mv.c3(h:Mv w0 P u G (rc l s x) l d):u.cell? (a_ G 28)=some (E3 s.pz)/\u.cell? (a_ G 35)=some (E4 s.port)/\u.cell? (a_ G 43)=some (E4 s.sT):=⟨h.k.1 28,h.k.1 35,h.k.1 43⟩
def yK(o:s.Ok)(k:s.Ud)(d:0<=s.port/\s.port<=65535)(t:XB)(c:t.size<=262144):Rs 42 [.string t] s (.tuple #[]) (s.su s.pz s.port s.sT t):=by
 intro w0 P w G l x h;have r:=h.m.k;have b:= @Xy s o k s.pz s.port s.sT t o.pz d o.sT c;obtain⟨i,j,n⟩:=IZ s s.pz s.port s.sT t;generalize s.su s.pz s.port s.sT t=z at*;go_enter func42,ntmps42;go_region_held3 (fun u=>c_ u G 28 (E3 s.pz)/\c_ u G 35 (E4 s.port)/\c_ u G 43 (E4 s.sT)) (first|exact h.m.dr.c3|exact g)
  (first|(go_at_call 63;refine on_ (b ⟨h.m.dr,h.iv⟩) fun u2 a=> ?_;have g:u2.cell? (a_ G 28)=some (E3 s.pz)/\u2.cell? (a_ G 35)=some (E4 s.port)/\u2.cell? (a_ G 43)=some (E4 s.sT):=by obtain⟨v,y,p,f⟩:=a;have q:=f.m.c3;rwa [i,j,n]at q))
 go_wp2;go_end0;exact⟨rfl,a⟩
def JB(h:Mv w0 P u G cs l d){n:Int}(e:cs[(16:Nat)]?=some (E4 n)):u.cell? (a_ G 16)=some (E4 n):=(h.k.1 16).trans e
abbrev _root_.Go.Proofs.YtnbaacgmlbhhcaaGreatDoor.Nu.S.wts(s:S)(B:XB)(T:Int):S:={s with sL:=B,sT:=T,fs:=1,fu:=wrap64 (s.now+s.qp 0)}
def CG(h:Mz w0 P w G l x s)(o:s.Ok){op bl:Int}{ts ds:XB}{fa:XO}{n fc:Nat}{m:Tf.sG}(J:(m.op:Int)=op)(c:Tf.Qh m=0)(f:op=1∨op=4∨op=5)(I:(m.block:Int)=bl)(y:0<=bl)(a:bl<=65535)(O:ts.data.toList=m.text)(U:ds.data.toList=m.data)(L:n=m.fs.length)(q:Tf.wL w fa m.fs)(A:n<=fc)(H:Tf.mM m.fs<=1048576)(R:m.text.length<=1048576)(W:m.data.length<=1048576){T:Int}(F:(s.phase==1)=true/\T=69∨(s.phase==1)=false/\T=s.oJ)(E:0<=T/\T<=65535):
  C_ 92 #[p_ G,.agg (rT op bl ts ds fa n fc)] w (.tuple #[]) fun u=>Mz w0 P u G l x (s.wts ⟨(Tf.GD m).toArray⟩ T):=by
 subst L;have D:=fun u (q:Tf.wL u fa m.fs)=>Tf.ak2 op bl ts ds fa fc m u J c f I y a O q A H R;have hA1:=q.below ((aK _ _).alloc (ae _) (.cells (rT op bl ts ds fa m.fs.length fc) 133)) (ae _);have M:(⟨(Tf.GD m).toArray⟩:XB).size<=262144:=aJ (sW m) (by decide);generalize(⟨(Tf.GD m).toArray⟩:XB)=B at*;generalize m.fs.length=n at*;have t:=fun {u:kV} (r:Kn u G (rc l {s with sL:=B,sT:=T,fs:=1} x))=>JS (s:={s with sL:=B,sT:=T,fs:=1}) {o with sT:=E,sL:=M} r 0 (by decide);rw[show S.qp {s with sL:=B,sT:=T,fs:=1} 0=s.qp 0 from rfl]at t;generalize c:s.qp 0=tk at*;replace c:=ll c
 have r:=h.m.k
 rcases F with⟨N,rfl⟩|⟨N,rfl⟩
 ·go_enter func92,ntmps92
  go_wp2_with (go_at_call 134;refine on_ (D _ hA1) fun u1 a=> ?_;have d:=h.m.al.below a;have V:=d.k);have b:Mv w0 P ((((u1.setCell (a_ G 44) (.string B)).setCell (a_ G 43) (E4 s.oJ)).setCell (a_ G 43) (E4 69)).setCell (a_ G 42) (E4 1)) G (rc l {s with sL:=B,sT:=69,fs:=1} x) l s.toSd:=d.st.st.st.st;have g:=b.dr;have p:=fun v=>JB (b.st (j:=41) (v:=v)).dr (n:=s.now) rfl;have i:=JB g (n:=s.now) rfl;go_region_held3 (fun u=>u.cell? (a_ G 16)=some (E4 s.now)) (first|with_reducible exact i|with_reducible exact p _) (first|(go_at_call 41;refine on_ (t g.k) fun u C=> ?_;subst C))
  rw[Gf];go_end0;exact⟨rfl,b.st.dr.z (by rw[S.wts,c.out];rfl) rfl h.iv⟩
 go_enter func92,ntmps92;go_wp2_with (go_at_call 134;refine on_ (D _ hA1) fun u1 a=> ?_;have d:=h.m.al.below a;have V:=d.k);have b:Mv w0 P (((u1.setCell (a_ G 44) (.string B)).setCell (a_ G 43) (E4 s.oJ)).setCell (a_ G 42) (E4 1)) G (rc l {s with sL:=B,sT:=s.oJ,fs:=1} x) l s.toSd:=d.st.st.st;have g:=b.dr;have p:=fun v=>JB (b.st (j:=41) (v:=v)).dr (n:=s.now) rfl;have i:=JB g (n:=s.now) rfl;go_region_held3 (fun u=>u.cell? (a_ G 16)=some (E4 s.now)) (first|with_reducible exact i|with_reducible exact p _) (first|(go_at_call 41;refine on_ (t g.k) fun u C=> ?_;subst C))
 rw[Gf];go_end0;exact⟨rfl,b.st.dr.z (by rw[S.wts,c.out];rfl) rfl h.iv⟩
def Zf{n k:Int}(h:0<=n/\n<=10000000/\n%65536=k):IntKind.u16.wrap (wrap64 (n+65535))=IntKind.u16.wrap (k-1)/\IntKind.u16.wrap (n+65535)=IntKind.u16.wrap (k-1):=by
 rw[bB,bB,bB];unfold wrap64;omega
def Ey(o:s.Ok)(k:s.Ud)(d:0<=s.port/\s.port<=65535)(c:0<=s.oJ/\s.oJ<=65535)(E:s.phase=2):Rs 116 [] s (.tuple #[]) s.answer:=by
 intro w0 P w G l x h;have r:=h.m.k;obtain⟨B,C⟩:=Zf ⟨h.iv.nx.1,j6 h.iv.nx.2.1 h.iv.b1.2,h.iv.nx.2.2⟩;have b:=oh.Ay (s.pU-1);have A:=Jq s;have g:=fun {w0 P w G l x} h hA=> @CG w0 P w G l s x h o 4 (IntKind.u16.wrap (s.pU-1)) ⟨#[]⟩ ⟨#[]⟩ none 0 0 s.D8 rfl rfl (by decide) A b.1 b.2 rfl rfl rfl hA (ae _) (show Tf.mM []<=1048576 by decide) (show([]:XU).length<=1048576 by decide) (show([]:XU).length<=1048576 by decide) s.oJ (aF ⟨by rw[E];rfl,rfl⟩) c;have f:= @yK s.yG.sH {Kr o d c with} k d s.Oa (aJ (sW _) (by decide));have j:s.answer=S.su s.yG.sH s.pz s.port s.oJ s.Oa:=rfl;rw[j];have n:Tf.wL w none s.D8.fs:=fun i v=>absurd v (fq _);clear A E;generalize S.su s.yG.sH s.pz s.port s.oJ s.Oa=z at*;generalize IntKind.u16.wrap (s.pU-1)=bl at*;go_enter func116,ntmps116;go_wp2_with (first|(go_at_call 92;go_loud (refine on_ (g h n) fun u1 a=> ?_);have D:=a.m.k)|(go_at_call 42;go_loud (refine vC f (a.m.st.z (s':=s.yG.sH) rfl rfl a.iv) fun u2 y H q t F=> ?_)));go_end0;exact⟨rfl,t.p q⟩
end Nr
namespace Nr
open Bs Nu
def tC(l:XU):Nat:=l.foldl (fun a c=>a*10+(c.toNat-48)) 0
def wo(c:UInt8):Bool:=decide (48<=c.toNat) && decide (c.toNat<=57)
def Af(l:XU):Bool:=decide (1<=l.length) && (decide (l.length<=7) && (!(decide (1<l.length) && l.head?==some 48) && l.all wo))
def OJ(l:XU):Int:=if Af l=true then(tC l:Int)else-1
def zJ(l:XU)(c:UInt8):tC (l++ [c])=tC l*10+(c.toNat-48):=by unfold tC;rw[List.foldl_append];rfl
def AY{c:UInt8}(h:wo c=true):48<=c.toNat/\c.toNat<=57:=by simpa[wo]using h
def JD(u:Nat)(h:u<10):(UInt8.ofNat (48+u)).toNat=48+u:=by simp;omega
def Yf{c:UInt8}(h:wo c=true):UInt8.ofNat (48+(c.toNat-48))=c:=by
 have:=AY h;rw[show 48+(c.toNat-48)=c.toNat by omega];simp
def Gj{α:Type}{p:List α->Prop}(h0:p [])(h1:∀l a,p l->p (l++ [a]))(l:List α):p l:=by
 have:∀r:List α,p r.reverse:=fun r=>by
  induction r with
  |nil=>exact h0
  |cons a r ih=>rw[List.reverse_cons];exact h1 _ _ ih
 have q:=this l.reverse;rwa [List.reverse_reverse]at q
def Qn(l:XU):l.all wo=true->tC l<10 ^ l.length:=by
 induction l using Gj with
 |h0=>intro _;decide
 |h1 l c ih=>
  intro h;rw[iB,bG]at h;have h1:=ih h.1;have h2:=AY (show wo c=true by simpa using h.2);rw[zJ,au,List.length_singleton,Nat.pow_succ];omega
def Wz(l:XU):l≠ []->l.head?≠some 48->l.all wo=true->1<=tC l:=by
 induction l using Gj with
 |h0=>intro h;exact absurd rfl h
 |h1 l c ih=>
  intro _ hh h;rw[iB,bG]at h;have h2:=AY (show wo c=true by simpa using h.2);rw[zJ]
  by_cases hl:l=[]
  ·subst hl
   have:c≠48:=fun e=>hh (by rw[e];rfl);have:c.toNat≠48:=fun e=>this (dS.1 e);omega
  have:=ih hl (fun e=>hh (by cases l with|nil=>exact absurd rfl hl|cons a r=>exact e)) h.1;omega
def Xa(l:XU):l≠ []->(1<l.length->l.head?≠some 48)->l.all wo=true->Lib.decDigits (tC l)=l:=by
 induction l using Gj with
 |h0=>intro h;exact absurd rfl h
 |h1 l c ih=>
  intro _ hh h;rw[iB,bG]at h;have hc:wo c=true:=by simpa using h.2
  have h2:=AY hc;rw[zJ]
  by_cases hl:l=[]
  ·subst hl
   rw[show tC []=0 from rfl,Lib.decDigits,dif_pos (by omega),show 48+(0*10+(c.toNat-48))=48+(c.toNat-48)by omega,Yf hc];rfl
  have E:1<=l.length:=iF.2 hl;have A:l.head?≠some 48:=fun e=>hh (by rw[au,List.length_singleton];omega) (by cases l with|nil=>exact absurd rfl hl|cons a r=>exact e);have hp:=Wz l hl A h.1;rw[Lib.decDigits,dif_neg (by omega),show(tC l*10+(c.toNat-48))/10=tC l by omega,show(tC l*10+(c.toNat-48))%10=c.toNat-48 by omega,Yf hc,ih hl (fun _=>A) h.1]
def ao9:∀u:Nat,(Lib.decDigits u).all wo=true/\Lib.decDigits u≠ []/\(1<(Lib.decDigits u).length->(Lib.decDigits u).head?≠some 48)/\(1<=u->(Lib.decDigits u).head?≠some 48):=by
 intro u
 induction u using Nat.strongRecOn with
 |ind u ih=>
  rw[Lib.decDigits]
  split
  ·rename_i h
   have:=JD u h;refine⟨by simp[wo,this];omega,by simp,by simp,fun h1=> ?_⟩;simp only[List.head?_cons,ne_eq,aZ];intro e;rw[e]at this;have:(48:UInt8).toNat=48:=rfl;omega
  rename_i h
  obtain⟨i1,i2,i3,i4⟩:=ih (u/10) (by omega);have:=JD (u%10) (by omega);have hd:(Lib.decDigits (u/10)++ [UInt8.ofNat (48+u%10)]).head?=(Lib.decDigits (u/10)).head?:=by
   cases hq:Lib.decDigits (u/10)with
   |nil=>exact absurd hq i2
   |cons a r=>rfl
  refine⟨by rw[iB,i1];simp[wo,this];omega,by simp,fun _=> ?_,fun _=> ?_⟩<;>(rw[hd];exact i4 (by omega))
def Ox(l:XU):∀A:Nat,l.all wo=true->(A+1)*10 ^ l.length<=100000000->Lib.parseUint10 A l=.ok (l.foldl (fun a c=>a*10+(c.toNat-48)) A):=by
 induction l with
 |nil=>intro A _ _;rfl
 |cons c r ih=>
  intro A h hb;rw[jJ,bG]at h;have h2:=AY h.1;rw[ax,Nat.pow_succ]at hb;have hp:1<=10 ^ r.length:=Nat.one_le_pow _ _ (by decide);have hm:(A+1)*10*10 ^ r.length<=100000000:=by rw[Nat.mul_assoc,Nat.mul_comm 10];exact hb
  have E:(A+1)*10<=100000000:=aJ (Nat.le_mul_of_pos_right _ hp) hm;rw[Lib.parseUint10,aB h2,az (by omega),az (by omega),jP];refine ih _ h.2 (aJ (Nat.mul_le_mul_right _ ?_) hm);omega
def ao7(t:XB):(Ch t).getD (-1)=OJ t.data.toList:=by
 obtain⟨l,hl⟩:=ex_ t.data.toList;have ht:t=⟨l.toArray⟩:=by rw[hl]
 unfold Ch OJ;rw[<-hl]
 cases hn:Af l with
 |true=>
  obtain⟨h1,h2,h3,h4⟩:1<=l.length/\l.length<=7/\(1<l.length->l.head?≠some 48)/\l.all wo=true:=by
   simp only[Af,bG,bT,iP,fZ,dA,aP]at hn;exact⟨hn.1,hn.2.1,fun q=>hn.2.2.1.elim (fun e=>absurd q e) id,hn.2.2.2⟩
  have A:l≠ []:=fun e=>by rw[e]at h1;cases h1
  have hv:tC l<10 ^ l.length:=Qn l h4;have hv7:tC l<10000000:=aW hv (il (by decide) h2);have J:Lib.atoiAll l=.ok (tC l:Int):=by
   cases l with
   |nil=>exact absurd rfl A
   |cons c r=>
    have hc:=AY (show wo c=true by rw[jJ,bG]at h4;exact h4.1);unfold Lib.atoiAll Lib.parseMag;dsimp only;have e43: ¬(c.toNat=43∨c.toNat=45):=by omega
    simp only[az e43,az A];rw[Ox (c::r) 0 h4 (aJ (by rw[fC,Nat.one_mul];exact il (by decide) h2) (by decide))];dsimp only;rw[show(c::r).foldl (fun a c=>a*10+(c.toNat-48)) 0=tC (c::r)from rfl,az (by omega),az (by omega),az (by omega)]
  rw[J];dsimp only;have E:(decide (0<=((tC l:Nat):Int)) && decide (((tC l:Nat):Int)<=9999999))=true/\Kg ((tC l:Nat):Int)=t:=⟨by simp;omega,by rw[ht,Kg,Lib.itoa,az (by omega),show((tC l:Nat):Int).toNat=tC l by omega,Xa l A h3 h4]⟩;rw[aB E];rfl
 |false=>
  rw[az (by simp)];have M:∀v:Int,(decide (0<=v) && decide (v<=9999999))=true->Kg v≠t:=fun v hv e=>by
   simp only[bG,bT]at hv;rw[Kg,Lib.itoa,az (by omega),ht]at e;have e':Lib.decDigits v.toNat=l:=by
    have:=dF (fun b:XB=>b.data.toList) e;simpa using this
   obtain⟨d1,d2,d3,d4⟩:=ao9 v.toNat;rw[e']at d1 d2 d3;have I:l.length<=7:=by
    rw[<-e',Lib.decDigits_length];have h0:=Lib.nDigits_pos v.toNat
    rcases Nat.lt_or_ge (Lib.nDigits v.toNat) 8 with q|q
    ·omega
    exfalso
    have:∀k u:Nat,k+1<=Lib.nDigits u->10 ^ k<=u∨k=0:=fun k=>by
     induction k with
     |zero=>intro u _;exact aF rfl
     |succ k ih=>
      intro u hu
      by_cases h10:u<10
      ·rw[Lib.nDigits_small h10]at hu;omega
      rw[Lib.nDigits_big h10]at hu
      rcases ih (u/10) (by omega)with q|q
      ·left;rw[Nat.pow_succ];omega
      left;rw[q];omega
    rcases this 7 v.toNat q with q|q
    ·have:(10:Nat) ^ 7=10000000:=by decide
     omega
    cases q
   have:Af l=true:=by
    simp only[Af,bG,bT,iP,fZ,dA,aP];exact⟨iF.2 d2,I,by
     by_cases q:1<l.length
     ·exact aF (d3 q)
     exact aG q,d1⟩
   rw[hn]at this
   cases this
  cases Lib.atoiAll l with
  |ok v=>
   dsimp only;rw[az (fun q=>M v q.1 q.2)];rfl
  |«syntax» =>rfl
  |range=>rfl
def au2(s:XB)(k:Nat)(c:UInt8)(hc:s.data.toList[k]?=some c)(u:kV):(Instr.index 9 (.string s) (E4 k)).run prog u=.ok (E8 c.toNat) u:=by
 have hk:k<s.size:=by
  have:=(cB.1 hc).1;rwa [mg]at this
 have h2:(k:Int)<(s.size:Int):=by omega
 have h3:s[k]=c:=by
  have q:s.data[k]?=some c:=by rw[<-bP];exact hc
  have A:k<s.data.size:=hk;rw[bM A]at q;exact aV q
 simp[Instr.index,gB dB,asIntOf,h2,hk,go_sem,h3]
def Y6{l:XU}{k:Nat}{c:UInt8}(h:l[k]?=some c):l.take (k+1)=l.take k++ [c]:=by rw[ku,h];rfl
def Vy(t:XB)(hz:t.size<=1048576)(w:kV):C_ 115 #[.string t] w (E4 ((Ch t).getD (-1))) fun u=>u=w:=by
 rw[ao7];obtain⟨l,hl⟩:=ex_ t.data.toList;have A:l.length=t.size:=by rw[hl,mg]
 have HX:=fun k c (h:l[k]?=some c) u=>au2 t k c (by rw[<-hl];exact h) u;rw[<-hl];obtain⟨V,hV⟩:=ex_ (OJ l);rw[<-hV];replace hV:=ll hV
 obtain⟨n,hn⟩:=ex_ t.size
 by_cases h1:n<1
 ·have e1:((t.size:Int)<1):=by omega
  have:V= -1:=by rw[hV.out,OJ,az];unfold Af;rw[dO (show ¬1<=l.length by omega)];simp
  subst this;clear hl HX hn h1;go_enter func115,ntmps115;go_wp2;go_returns
  exact⟨rfl,rfl⟩
 by_cases h7:7<n
 ·have e1: ¬((t.size:Int)<1):=by omega
  have e2:(7:Int)<(t.size:Int):=by omega
  have:V= -1:=by rw[hV.out,OJ,az];unfold Af;rw[dO (show ¬l.length<=7 by omega)];simp
  subst this;clear hl HX hn h1 h7;go_enter func115,ntmps115;go_wp2;go_returns
  exact⟨rfl,rfl⟩
 have e1: ¬((t.size:Int)<1):=by omega
 have e2: ¬(7:Int)<(t.size:Int):=by omega
 obtain⟨c0,hc0⟩:∃c,l[0]?=some c:=⟨l[0]'(by omega),aN _⟩;have x0:∀u,(Instr.index 9 (.string t) (E4 0)).run prog u=.ok (E8 c0.toNat) u:=HX 0 c0 hc0;have hh:l.head?=some c0:=by rw[List.head?_eq_getElem?];exact hc0
 have hz0:(1<n/\c0=48)∨(1<n/\ ¬c0=48/\((c0.toNat:Int)==48)=false)∨ ¬1<n:=by
  by_cases q:1<n
  ·by_cases q2:c0=48
   ·exact aG ⟨q,q2⟩
   exact aF (aG ⟨q,q2,aP.2 (fun e=>q2 (dS.1 (by have:(48:UInt8).toNat=48:=rfl;omega)))⟩)
  exact aF (aF q)
 rcases hz0 with⟨q,rfl⟩|hz0
 ·have e3:(1:Int)<(t.size:Int):=by omega
  have:V= -1:=by rw[hV.out,OJ,az];unfold Af;rw[hh,fA (show 1<l.length by omega)];simp
  subst this;clear hl HX hn h1 h7 q hc0 hh;go_enter func115,ntmps115;go_wp2;go_returns
  exact⟨rfl,rfl⟩
 have E:Af l=l.all wo:=by
  unfold Af;rw[fA (show 1<=l.length by omega),fA (show l.length<=7 by omega),hh]
  rcases hz0 with⟨q,q2,q3⟩|q
  ·rw[show((some c0:Option UInt8)==some 48)=false by simpa using q2];simp
  rw[dO (show ¬1<l.length by omega)];simp
 have hV2:V=if l.all wo=true then(tC l:Int)else-1:=by rw[hV.out,OJ,E]
 replace hV2:=ll hV2
 replace hz0:(1:Int)<(t.size:Int)/\((c0.toNat:Int)==48)=false∨ ¬(1:Int)<(t.size:Int):=by
  rcases hz0 with⟨q,q2,q3⟩|q
  ·exact aG ⟨by omega,q3⟩
  exact aF (by omega)
 have HL:=ll A;have I:=ll HX;have O:(t.size:Int)<=7:=by omega
 clear hl HX hn h1 h7 hc0 hh E hV A
 rcases hz0 with⟨e3,e4⟩|e3
 all_goals
  go_enter func115,ntmps115;go_wp2;go_loopw [3,4] (fun v i wr=>∃k:Nat,i=E4 k/\k<=t.size/\v=E4 (tC (l.take k))/\Hid ((l.take k).all wo=true)/\wr=w) (fun _ i _=>t.size-(intOf i).toNat)
  case atStart=>exact⟨0,rfl,aR _,rfl,ll rfl,rfl⟩
  obtain⟨k,rfl,hk,rfl,HD,rfl⟩:=hrel
  by_cases hlt:k<t.size
  ·have M:(k:Int)<(t.size:Int):=by omega
   obtain⟨c,hc⟩:∃c,l[k]?=some c:=⟨l[k]'(by have:=HL.out;omega),aN _⟩;have ix:=I.out k c hc;have HS:=ll (Y6 hc);have J:=ll (jB hc);clear hc
   cases hdg:wo c
   ·have hV3:V= -1:=by
     rw[hV2.out,az];intro q;have:=kC.1 q c J.out;rw[hdg]at this;cases this
    subst hV3;have hw:(c.toNat:Int)<48∨ ¬(c.toNat:Int)<48/\(57:Int)<c.toNat:=by
     unfold wo at hdg;simp only[fZ,dA]at hdg;omega
    clear hdg
    rcases hw with q1|⟨q1,q2⟩
    all_goals
     go_wp2;go_returns
     exact⟨rfl,rfl⟩
   have hb:=AY hdg;have HV:Hid ((tC (l.take (k+1)):Int)=(tC (l.take k):Int)*10+((c.toNat:Int)-48)/\(l.take (k+1)).all wo=true):=ll ⟨by rw[HS.out,zJ];omega,by rw[HS.out,iB,HD.out];simpa using hdg⟩;have U:(tC (l.take k):Int)<=10000000:=by
    have h1:=Qn _ HD.out;have h2:(l.take k).length<=7:=by rw[aX];omega
    have h3:10 ^ (l.take k).length<=10 ^ 7:=il (by decide) h2;have:(10:Nat) ^ 7=10000000:=by decide
    omega
   have hv0:(0:Int)<=(tC (l.take k):Int):=by omega
   clear hdg;have q1: ¬(c.toNat:Int)<48:=by omega
   have q2: ¬(57:Int)<(c.toNat:Int):=by omega
   have q3:(c.toNat:Int)<=57:=by omega
   have q4:(48:Int)<=(c.toNat:Int):=by omega
   generalize(tC (l.take k):Int)=y at*;clear hb;go_wp2;go_roundw
   case rel=>exact⟨k+1,by go_num,by omega,by rw[HV.out.1];congr 1;first|omega|(unfold wrap64;omega),ll HV.out.2,trivial⟩
   simp[intOf];omega
  have M: ¬(k:Int)<(t.size:Int):=by omega
  have hV3:V=tC (l.take k):=by
   have e:l.take k=l:=bF (by have:=HL.out;omega);have h:=HD.out;rw[e]at h ⊢;rw[hV2.out,aB h]
  subst hV3;go_wp2;go_returns
  exact⟨rfl,rfl⟩
def T_(n:Nat):n<=1000000->∀w,C_ 93 #[E4 n] w (.string ⟨(Lib.decDigits n).toArray⟩) (y_ w):=by
 induction n using Nat.strongRecOn with
 |ind n ih=>
  intro hn w;obtain⟨D,hD⟩:=ex_ (Lib.decDigits n);rw[<-hD];rw[Lib.decDigits]at hD;have I:(n:Int)<=1000000:=by omega
  by_cases h10:n<10
  ·have e1:(n:Int)<10:=by omega
   rw[dif_pos h10]at hD;have hc:IntKind.u8.wrap (48+(n:Int))=((UInt8.ofNat (48+n)).toNat:Int):=by rw[JD n h10,gQ];omega
   have A:=fun(u:kV) (g:Nat) (h:u.cell? (a_ g 0)=some (E8 (UInt8.ofNat (48+n)).toNat))=>Yq u g _ h;have HD:=ll hD;clear hD h10 ih hn;generalize UInt8.ofNat (48+n)=c at*;go_enter func93,ntmps93;go_wp2;go_ret;exact⟨by rw[HD.out];rfl,(aK _ _).alloc (ae _) _⟩
  have e1: ¬(n:Int)<10:=by omega
  rw[dif_neg h10]at hD;have hq:(n:Int).tdiv 10=((n/10:Nat):Int):=by rw[fK (by omega)];omega
  have hm:(n:Int).tmod 10=((n%10:Nat):Int):=by rw[cZ (by omega)];omega
  have hc:IntKind.u8.wrap (48+((n%10:Nat):Int))=((UInt8.ofNat (48+n%10)).toNat:Int):=by rw[JD _ (by omega),gQ];omega
  have hb:((n%10:Nat):Int)<=9:=by omega
  have hw:IntKind.i64.wrap (48+((n%10:Nat):Int))=48+((n%10:Nat):Int):=by rw[Gf];unfold wrap64;omega
  have hq2:IntKind.i64.wrap ((n/10:Nat):Int)=((n/10:Nat):Int):=by rw[Gf];unfold wrap64;omega
  have A:=fun(u:kV) (g:Nat) (h:u.cell? (a_ g 0)=some (E8 (UInt8.ofNat (48+n%10)).toNat))=>Yq u g _ h;have HI:=ih (n/10) (by omega) (by omega);have hE:(Lib.decDigits (n/10)).length<=20:=by rw[Lib.decDigits_length];exact Lib.nDigits_le20 _ (by omega)
  have HD:=ll hD;clear hD h10 ih hn;generalize UInt8.ofNat (48+n%10)=c at*;generalize Lib.decDigits (n/10)=E at*;generalize n/10=q at*;generalize n%10=m at*;go_enter func93,ntmps93;go_wp2;go_region_held_law (fun _=>True) (trivial) (first|(go_at_call 93;refine on_ (HI _) fun u1 hb1=> ?_;have hk:=fun h=>hb1.cell (p:=(n_ w 0)) h))
  all_goals
   go_wp2;go_ret;refine⟨J_ (by rw[HD.out,<-Rb.nC]),?_⟩;first|exact(Below.drew b1_).trans (hb1.mono (by simp))|exact(Below.drew (aK w.heap.size w)).trans (hb1.mono (ae _))|exact((Below.drew (aK w.heap.size w)).trans (hb1.mono (ae _))).alloc hb1.size _|exact(((Below.drew (aK w.heap.size w)).trans (hb1.mono (ae _))).alloc hb1.size _).drew
end Nr
namespace Nr
open Bs Nu
open oh (Nb tu)
variable{w0 w w' u u':kV}{P:Nat->Prop}{G b:Nat}{cs:XV}{l l':Lr}{d d':Sd}{s s' z:S}{x x':X}{v v' lv:Value}
def Mv.c7(h:Mv w0 P u G (rc l s x) l d):u.cell? (a_ G 7)=some (.string s.name)/\u.cell? (a_ G 10)=some (aC6 aD0 s.blk)/\u.cell? (a_ G 11)=some (aC6 aD0 s.win):=⟨h.k.1 7,h.k.1 10,h.k.1 11⟩
def ay1(n:Int)(h:0<=n/\n<=1000000)(w:kV):C_ 93 #[aC6 aD0 n] w (.string (Kg n)) (y_ w):=by
 obtain⟨k,rfl⟩:∃k:Nat,n=k:=⟨n.toNat,by omega⟩;have:=T_ k (by omega) w;rw[Kg,Lib.itoa,az (by omega),jr];exact this
abbrev _root_.Go.Proofs.YtnbaacgmlbhhcaaGreatDoor.Nu.S.XT(s:S):S:={s with phase:=1,port:=1024+s.draw%60000,oJ:=0,nK:=512,oL:=1,since:=0,pU:=1}
def Mz.rd(h:Mz w0 P w G l x s)(A:s.im=[]):∃u a b,((((((((w.setCell (a_ G 34) (aC6 aD0 1)).setCell (a_ G 35) (aC6 aD0 (1024+s.draw%60000))).setCell (a_ G 36) (aC6 aD0 0)).setCell (a_ G 37) (aC6 aD0 512)).setCell (a_ G 38) (aC6 aD0 1)).setCell (a_ G 39) (aC6 aD0 1)).setCell (a_ G 40) (aC6 aD0 0)).setCell (a_ G 45) (.slice none 0 0))=u/\(a.n=l.n/\a.tb=l.tb)/\Mz w0 P u G a b s.XT:=
 ⟨_,{l with sl:=fun j=>if j=3 then .slice none 0 0 else l.sl j},{x with next:=1},rfl,⟨rfl,rfl⟩,((h.m.st.st.st.st.st.st.st.az2 3 (by decide) (d':=s.toSd) (v:=.slice none 0 0) (by rw[show len s.toSd 3=s.im.length from rfl,show CO s.toSd 3=lC s.im from rfl,A];exact Own.nil) (fun j _ _=>⟨rfl,rfl⟩) h.m.few).st).z (by kernel_rfl) rfl ⟨h.iv.b1,h.iv.id,⟨(by decide:(0:Int)<=1),h.iv.b1.1,rfl⟩,h.iv.a1,h.iv.a3,h.iv.a5⟩⟩
def Vl(o:s.Ok)(c:s.Cf)(k:s.Ud)(A:s.im=[]):Rs 60 [] s (.tuple #[]) s.LD:=by
 intro w0 P w G l x h;have r:=h.m.k;have I:=o.draw;obtain⟨u1,f,j,a,F,b⟩:=h.rd A;have V:s.draw.tmod 60000=s.draw%60000:=cZ I.1;have J:0<=1024+s.draw%60000/\1024+s.draw%60000<=65535:=by omega
 have W:=Lib.itoa_length_le s.blk (by have:=c.blk;omega) (by have:=c.blk;omega);have X:=Lib.itoa_length_le s.win (by have:=c.win;omega) (by have:=c.win;omega);have B:∀ {w0 P w G l x} {g:Nat},Mz w0 P w G l x s.XT->w.heap[g]?=some (.cells s.LB 155 (0,0))->C_ 92 #[p_ G,.agg (rT 1 0 s.name ⟨#[]⟩ (some (a_ g 0)) 3 3)] w (.tuple #[]) fun u=>Mz w0 P u G l x (s.XT.wts s.Ae 69):=fun i U=>CG i {o with} (m:=s.Gb) rfl (ai1 c) (show(1:Int)=1∨(1:Int)=4∨(1:Int)=5 by decide) rfl (show(0:Int)<=0 by decide) (show(0:Int)<=65535 by decide) rfl rfl rfl (MU U) (ae _) (by simp only[Tf.mM,List.foldr,List.map,iT,ax];simp;omega) (by have:=c.name;show s.name.data.toList.length<=_;rw[mg];omega) (by simp) (aG ⟨rfl,rfl⟩) (by decide);have L:= @yK s.reads.sH {Kq o with} k J s.Ae (aJ (sW _) (by decide));have C:s.LD=S.su s.reads.sH s.pz (1024+s.draw%60000) 69 s.Ae:=rfl;have M:∀ {w0 P w G l x},Mz w0 P w G l x (s.XT.wts s.Ae 69)->Mz w0 P w G l x s.reads.sH:=fun i=>⟨i.m,i.iv⟩;rw[C];have H:s.LB=#[.string ⟨#[98,108,107,115,105,122,101]⟩,.string (Kg s.blk),.string ⟨#[119,105,110,100,111,119,115,105,122,101]⟩,.string (Kg s.win),.string ⟨#[116,115,105,122,101]⟩,.string ⟨#[48]⟩]:=rfl;rw[H]at B;have N:=fun u=>ay1 s.blk (by have:=c.blk;omega) u;have O:=fun u=>ay1 s.win (by have:=c.win;omega) u;generalize S.su s.reads.sH s.pz (1024+s.draw%60000) 69 s.Ae=z at*;generalize s.Ae=R at*;clear W X c H C A;generalize Kg s.blk=d1 at*;generalize Kg s.win=d2 at*;have E:0<=s.draw%60000/\s.draw%60000<=59999:=by omega
 replace a:=ll a
 replace b:=ll b
 go_enter func60,ntmps60;go_wp2;rw[a.out];clear r a V E I J;go_region_held3 (fun u=>c_ u G 7 (.string s.name)/\c_ u G 10 (aC6 aD0 s.blk)/\c_ u G 11 (aC6 aD0 s.win)) (first|exact Y|((refine Mv.c7 (w0:=w0) (P:=P) (l:=f) (x:=j) (s:=s.XT) (d:=s.toSd) ?_;repeat with_reducible first|exact n|exact q|refine Mv.dr ?_|refine Mv.al ?_|exact b.out.m)))
  (first|(go_at_call_of 93 (aC6 aD0 s.blk);refine on_ (N _) fun Z v=> ?_;have n:Mv w0 P Z G (rc f s.XT j) f s.toSd:=Mv.below (by repeat with_reducible first|exact q|refine Mv.dr ?_|exact b.out.m) v)|(go_at_call_of 93 (aC6 aD0 s.win);refine on_ (O _) fun v2 y=> ?_;have q:Mv w0 P v2 G (rc f s.XT j) f s.toSd:=Mv.below (by repeat with_reducible first|exact n|refine Mv.dr ?_|exact b.out.m) y)|(go_at_call 92;refine on_ (B (w0:=w0) (P:=P) (l:=f) (x:=j) ⟨by repeat with_reducible first|exact q|exact n|refine Mv.al ?_,b.out.iv⟩ (ah _ _)) fun v3 t=> ?_;have Y:=t.m.c7))
 all_goals
  have r5:=t.m.k;go_wp2_with (go_at_call 42;refine vC L (M t) fun u4 l4 x4 D T r4=> ?_);go_end0;exact⟨rfl,T.p ⟨D.1.trans F.1,D.2.trans F.2⟩⟩
def De(o:s.Ok)(k:s.Ud)(v:0<=s.port/\s.port<=65535)(p c:Int)(t:0<=p/\p<=65535)(f:0<=c/\c<=65535):Rs 113 [aC6 aD0 p,aC6 aC8 c,.string (why c)] s (.tuple #[]) (s.refuse p c):=by
 intro w0 P w G l x h;have r:=h.m.k;have y:=MV c;have j:=fun u=>Tf.ak2 5 c (why c) ⟨#[]⟩ none 0 (FM c) u rfl (av0 c) (by decide) (by show((c.toNat:Nat):Int)=c;omega) f.1 f.2 rfl (fun i n=>absurd n (fq _)) (ae _) (by simp[Tf.mM]) (by show(why c).data.toList.length<=_;omega);have g:= @Xy s o k s.pz s.port p ⟨(Tf.GD (FM c)).toArray⟩ o.pz v t (aJ (sW _) (by decide));unfold S.refuse;obtain⟨D,E,F⟩:=IZ s s.pz s.port p ⟨(Tf.GD (FM c)).toArray⟩;generalize s.su s.pz s.port p ⟨(Tf.GD (FM c)).toArray⟩=z at*;generalize(⟨(Tf.GD (FM c)).toArray⟩:XB)=B at*;clear y;generalize why c=wy at*;go_enter func113,ntmps113;go_wp2_with (go_at_call 134;refine on_ (j _) fun u1 b=> ?_;have a:=h.m.below b;have J:=a.k);go_region_held3 (fun u=>c_ u G 28 (aC6 aC9 s.pz)/\c_ u G 35 (aC6 aD0 s.port)/\c_ u G 43 (aC6 aD0 s.sT)) (first|exact a.dr.c3|exact C)
  (first|(go_at_call 63;refine on_ (g ⟨a.dr,h.iv⟩) fun u2 d=> ?_;have C:u2.cell? (a_ G 28)=some (aC6 aC9 s.pz)/\u2.cell? (a_ G 35)=some (aC6 aD0 s.port)/\u2.cell? (a_ G 43)=some (aC6 aD0 s.sT):=by obtain⟨I,L,H,A⟩:=d;have q:=A.m.c3;rwa [D,E,F]at q))
 go_wp2;go_end0;exact⟨rfl,d⟩
structure TmF (now gr over:Int) (ends:Bool):Prop where
 gr:0<=gr/\gr<=now/\now<=1000000
 ov:ends=true->1<=over
abbrev _root_.Go.Proofs.YtnbaacgmlbhhcaaGreatDoor.Nu.S.Tmd(s:S):Prop:=TmF s.now s.gr s.over s.ends
def an3(o:s.Ok)(h:s.Tmd)(a:s.ends=true):(s.t3==0)=false/\s.Zz=(if s.t3<=s.now then s.drop else if s.t2<=s.now/\s.st≠6 then s.renew 6 else if s.t1<=s.now/\s.st=4 then s.renew 5 else if s.st≠4/\wrap64 (s.asked+8)<=s.now then s.renew s.st else s):=by
 have j:=h.gr;have k:=h.ov a;have l:=o.old;have m:=o.qA;have n:=o.over;have e:wrap64 (s.now-s.gr)%4294967296=s.now-s.gr:=by unfold wrap64;omega
 have f:s.t1=s.gr+s.old:=by unfold S.t1;rw[aB a];unfold wrap64;omega
 have g:s.t2=s.gr+s.qA:=by unfold S.t2;rw[aB a];unfold wrap64;omega
 have i:s.t3=s.gr+s.over:=by unfold S.t3;rw[aB a];unfold wrap64;omega
 refine⟨aP.2 (by omega),?_⟩;unfold S.Zz;rw[a,e,f,g,i,az (by simp)];have d:(s.over<=s.now-s.gr)=(s.gr+s.over<=s.now):=propext (by omega);have c:(s.qA<=s.now-s.gr)=(s.gr+s.qA<=s.now):=propext (by omega);have b:(s.old<=s.now-s.gr)=(s.gr+s.old<=s.now):=propext (by omega);simp only[b,c,d]
def Sg(o:s.Ok)(k:s.Ud)(n:Int)(b:n=5∨n=6)(h:Mz w0 P w G l x (s.xh n)):C_ 62 #[p_ G,E8 3,.bool (n==5),.slice none 0 0] w (.tuple #[]) fun u=>Rp l w0 P u G (s.renew n):=by
 have c:=Bj false s.lM (s.xh n).addr 0 0 s.card (oh.wE 3 []);refine uO (s:=s.xh n) (os:=[]) h o 3 (n==5) BJ (by decide) (by decide) (fun e=> ?_) (fun e=> ?_)
 ·have:n=5:=by simpa using e
  subst this;unfold S.renew;rw[az (by decide)];exact @Xy (s.xh 5) o ⟨by show(4:Int)<=5;decide,k.nd,k.le,k.ld⟩ s.qJ 68 67 _ o.qJ (by decide) (by decide) (aJ c (by decide))
 have:n=6:=by rcases b with a|a<;>simp[a]at e ⊢
 subst this;unfold S.renew;rw[aB rfl]
def Jz(o:s.Ok)(c:s.Cf)(hw:0<=s.ws/\s.ws<=4)(h3:0<=s.st/\s.st<=3)(A:s.cl=[])(J:s.im=[]):Rs 39 [] s (.tuple #[]) s.wM:=by
 intro w0 P w G l x h;have r:=h.m.k
 rcases(by omega:s.st=0∨(s.st=1∨s.st=2)∨s.st=3)with hs|hs|hs
 ·have d:s.wM=S.enter {s with lM:=s.draw} 1:=by unfold S.wM;rw[aB hs]
  rw[d];obtain⟨_,_,_,_,_,_,N,_⟩:=yN hs;have W:= @LA {s with lM:=s.draw} {o with lM:=o.draw} 1 (aG rfl);generalize S.enter {s with lM:=s.draw} 1=z at*;clear d hs;go_enter func39,ntmps39;go_wp2_with (go_at_call 58;refine vC W (h.m.st.z rfl rfl h.iv) fun u1 F L f g H=> ?_);refine aQ (bH rfl _ _ _) rfl ?_;exact⟨rfl,g.p f⟩
 ·have d:s.wM=if s.now<s.wu then s else if s.ws=4 then s.fail else s.yE:=by unfold S.wM;rw[az (by omega),aB hs]
  rw[d];have t:x.again=s.wu:=h.iv.a1 hs;have T:s.yE=S.bd4 s.xe:=rfl;have U:= @MB s.xe o;have V:= @oQ s;have hk:=fun {u:kV} (r:Kn u G (rc l s x))=>JS o r s.ws hw;have E:(s.st==0)=false/\((s.st==1)=true∨(s.st==1)=false/\(s.st==2)=true):=by rcases hs with e|e<;>rw[e]<;>decide
  rw[T];generalize S.bd4 s.xe=zp at*;have hw1:wrap64 (s.ws+1)=s.ws+1:=by unfold wrap64;omega
  have I:(decide (x.again<=s.now)=false/\s.now<s.wu)∨decide (x.again<=s.now)=true/\ ¬s.now<s.wu/\((s.ws==4)=true/\s.ws=4∨(s.ws==4)=false/\ ¬s.ws=4):=by
   rw[t]
   by_cases q:s.now<s.wu
   ·exact aG ⟨dO (by omega),q⟩
   refine aF ⟨fA (by omega),q,?_⟩
   by_cases C:s.ws=4
   ·exact aG ⟨bK.2 C,C⟩
   exact aF ⟨aP.2 C,C⟩
  have D:Hid (IvF l.b s.st (wrap64 (s.now+s.qp s.ws)) s.gr s.asked s.id s.pU {x with again:=wrap64 (s.now+s.qp s.ws)}):=ll ⟨h.iv.b1,h.iv.id,h.iv.nx,fun _=>rfl,fun e=>by omega,fun e=>by omega⟩;clear t hs d T;obtain⟨N,E⟩:=E;have R:=fun a=>h.m.dn (n:=a)
  rcases I with⟨Y,i⟩|⟨Y,i,⟨Z,B⟩|⟨Z,B⟩⟩
  all_goals
   first|rw[aB i]|rw[az i,aB B]|rw[az i,az B]
   clear i;try clear B
   rcases E with O|⟨O,f2⟩
   all_goals
    go_enter func39,ntmps39;go_wp2;go_quiet (fail);go_wp2_with (go_at_call 40;refine vC V ⟨h.m.dn,h.iv⟩ fun u1 F L f g H=> ?_);try go_quiet (fail)
    try go_wp2
    first
     |(refine aQ (bH rfl _ _ _) rfl ?_;first|exact⟨rfl,g.p f⟩|exact⟨rfl,l,x,⟨rfl,rfl⟩,h.m.dn.dn,h.iv⟩)
     |(go_region_held3 (fun u=>u.cell? (a_ G 16)=some (E4 s.now)/\u.cell? (a_ G 33)=some (E4 s.ws)) (first|exact⟨h.m.dn.dn.dr.k.1 16,h.m.dn.dn.dr.k.1 33⟩|exact⟨h.m.dn.k.1 16,h.m.dn.k.1 33⟩|exact⟨h.m.dn.st.k.1 16,h.m.dn.st.k.1 33⟩) (first|(go_at_call 41;refine on_ (hk (R _).k) fun u hu=> ?_;subst hu))
       rw[Gf]
       have r6:=fun a=>((R a).st (j:=32) (v:=E4 (wrap64 (s.now+s.qp s.ws)))).k
       go_wp2_with (go_at_call 59;go_loud (refine vC U (h.m.dn.st.st.z (s':=s.xe) (x':={x with again:=wrap64 (s.now+s.qp s.ws)}) rfl rfl D.out) fun u1 F L f g H=> ?_))
       refine aQ (bH rfl _ _ _) rfl ?_
       exact⟨rfl,g.p f⟩)
 have d:s.wM=if wrap64 (s.gr+2)<=s.now then S.LD {s with st:=4}else s:=by unfold S.wM;rw[az (by omega),az (by omega),aB hs]
 rw[d];have t:x.again=wrap64 (s.gr+2):=h.iv.a3 hs;rw[<-t];obtain⟨O,f2,f3,_,_,_,N,_⟩:=yN hs;have X:= @Vl {s with st:=4} o {c with} ⟨by show(4:Int)<=4;decide,by show(s.cl.map (·.1)).Nodup;rw[A];exact .nil,by show s.cl.length<=100;rw[A];decide,by show ∀e ∈ s.cl,_;rw[A];intro e he;cases he⟩ J;have D:Hid (IvF l.b 4 s.wu s.gr s.asked s.id s.pU x):=ll ⟨h.iv.b1,h.iv.id,h.iv.nx,fun e=>by omega,fun e=>by omega,fun e=>by omega⟩;generalize S.LD {s with st:=4}=z at*;clear d t hs
 by_cases y:x.again<=s.now
 all_goals
  first|have M:decide (x.again<=s.now)=true:=fA y|have M:decide (x.again<=s.now)=false:=dO y
  first|rw[aB y]|rw[az y]
  clear y;go_enter func39,ntmps39;go_wp2;go_quiet (fail);go_wp2_with (go_at_call 60;refine vC X (h.m.dn.st.z rfl rfl D.out) fun u1 F L f g H=> ?_);refine aQ (bH rfl _ _ _) rfl ?_;first|exact⟨rfl,g.p f⟩|exact⟨rfl,l,x,⟨rfl,rfl⟩,h.m.dn,h.iv⟩
def Ni(o:s.Ok)(k:s.Ud)(t:s.Tmd)(h6:s.st<=6):Rs 39 [] s (.tuple #[]) s.Zz:=by
 intro w0 P w G l x h;have r:=h.m.k;have A:(s.st==0)=false/\(s.st==1)=false/\(s.st==2)=false/\(s.st==3)=false:=by
  have:=k.st;refine⟨?_,?_,?_,?_⟩<;>exact aP.2 (by omega)
 obtain⟨Y,Z,f2,f3⟩:=A
 cases hE:s.ends
 ·have I:s.Zz=s:=by unfold S.Zz;rw[aB hE]
  have V:(s.t3==0)=true:=by unfold S.t3;rw[hE];rfl
  rw[I];clear I;go_enter func39,ntmps39;go_wp2;refine aQ (bH rfl _ _ _) rfl ?_;exact⟨rfl,l,x,⟨rfl,rfl⟩,h⟩
 obtain⟨V,L⟩:=an3 o t hE;rw[L];clear L
 by_cases C:s.t3<=s.now
 ·have T:decide (s.t3<=s.now)=true:=fA C
  have N:= @vM s;rw[aB C];clear C;generalize s.drop=z at*;go_enter func39,ntmps39;go_wp2;go_quiet (fail);go_wp2_with (go_at_call 61;refine vC N ⟨h.m.dn,h.iv⟩ fun u1 l1 x1 U i r1=> ?_);refine aQ (bH rfl _ _ _) rfl ?_;exact⟨rfl,i.p U⟩
 have T:decide (s.t3<=s.now)=false:=dO C;rw[az C];clear C;have E:=fun {w0 P w G l x} n v h=> @Sg w0 P w G l s x o k n v h;have y:∀n:Int,n=5∨n=6->IvF l.b n s.wu s.gr s.now s.id s.pU {x with again:=wrap64 (s.now+8)}:=fun n v=>⟨h.iv.b1,h.iv.id,h.iv.nx,fun e=>by omega,fun e=>by omega,fun _=>rfl⟩;replace y:=ll y
 have D:=k.st;have j:5<=s.st->x.again=wrap64 (s.asked+8):=h.iv.a5
 by_cases f:s.t2<=s.now
 ·have R:decide (s.t2<=s.now)=true:=fA f
  by_cases a:s.st=6
  ·have M:({s with st:=6}:S)=s:=by rw[<-a]
   have O:Hid (IvF l.b 6 s.wu s.gr s.asked s.id s.pU x):=ll (a▸h.iv);rw[az (fun q=>q.2 a),az (fun q=>by omega),<-j (by omega)];have g:((6:Int)!=s.st)=false:=by rw[a];rfl
   have J:s.renew s.st=s.renew 6:=by rw[a]
   rw[J];clear J
   by_cases c:x.again<=s.now
   ·have F:decide (x.again<=s.now)=true:=fA c
    rw[aB ⟨by omega,c⟩];clear c j f D a M;go_enter func39,ntmps39;go_wp2;go_quiet (fail);go_wp2;go_quiet (fail);go_wp2;go_quiet (fail);go_wp2_with (go_at_call 62;go_loud (refine on_ (E 6 (aF rfl) (Mv.z (x':={x with again:=wrap64 (s.now+8)}) (s':=s.xh 6) h.m.dn.st.dn.st rfl rfl (y.out 6 (aF rfl)))) fun u1 i=> ?_));first|go_end0|refine aQ (bH rfl _ _ _) rfl ?_
    exact⟨rfl,i⟩
   have F:decide (x.again<=s.now)=false:=dO c;rw[az (fun q=>c q.2),<-M];clear c j f D a;go_enter func39,ntmps39;go_wp2;go_quiet (fail);go_wp2;go_quiet (fail);go_wp2;go_quiet (fail);go_wp2;first|go_end0|refine aQ (bH rfl _ _ _) rfl ?_
   exact⟨rfl,Mv.p (x':=x) (s':={s with st:=6}) h.m.dn.st.dn rfl rfl O.out ⟨rfl,rfl⟩⟩
  rw[aB ⟨f,a⟩];have g:((6:Int)!=s.st)=true:=dN.2 (fun q=>a q.symm);clear j f D a;go_enter func39,ntmps39;go_wp2;go_quiet (fail);go_wp2;go_quiet (fail);go_wp2;go_quiet (fail);go_wp2_with (go_at_call 62;go_loud (refine on_ (E 6 (aF rfl) (Mv.z (x':={x with again:=wrap64 (s.now+8)}) (s':=s.xh 6) h.m.dn.st.dn.st rfl rfl (y.out 6 (aF rfl)))) fun u1 i=> ?_));first|go_end0|refine aQ (bH rfl _ _ _) rfl ?_
  exact⟨rfl,i⟩
 have R:decide (s.t2<=s.now)=false:=dO f;rw[az (fun q=>f q.1)]
 by_cases d:s.st=4
 ·have W:(s.st==4)=true:=bK.2 d
  have X:(s.st !=4)=false:=by rw[d];rfl
  have g6:((5:Int)!=s.st)=true:=by rw[d];rfl
  by_cases B:s.t1<=s.now
  ·have H:decide (s.t1<=s.now)=true:=fA B
   rw[aB ⟨B,d⟩];clear j B f D d;go_enter func39,ntmps39;go_wp2;go_quiet (fail);go_wp2;go_quiet (fail);go_wp2;go_quiet (fail);go_wp2;go_quiet (fail);go_wp2_with (go_at_call 62;refine on_ (E 5 (aG rfl) (Mv.z (x':={x with again:=wrap64 (s.now+8)}) (s':=s.xh 5) h.m.dn.st.dn.st rfl rfl (y.out 5 (aG rfl)))) fun u1 i=> ?_);first|go_end0|refine aQ (bH rfl _ _ _) rfl ?_
   exact⟨rfl,i⟩
  have H:decide (s.t1<=s.now)=false:=dO B;rw[az (fun q=>B q.1),az (fun q=>q.1 d)];clear j B f D d;go_enter func39,ntmps39;go_wp2;go_quiet (fail);go_wp2;go_quiet (fail);go_wp2;go_quiet (fail);go_wp2;go_quiet (fail);go_wp2;first|go_end0|refine aQ (bH rfl _ _ _) rfl ?_
  exact⟨rfl,l,x,⟨rfl,rfl⟩,h.m.dn.dn.dn.dn,h.iv⟩
 have v:s.st=5∨s.st=6:=by omega
 have W:(s.st==4)=false:=aP.2 d;have X:(s.st !=4)=true:=dN.2 d;rw[az (fun q=>d q.2),<-j (by omega)];replace v:=ll v
 by_cases c:x.again<=s.now
 all_goals
  first|(have F:decide (x.again<=s.now)=true:=fA c;rw[aB ⟨d,c⟩])|(have F:decide (x.again<=s.now)=false:=dO c;rw[az (fun q=>c q.2)])
  clear j c f D d
  cases H:decide (s.t1<=s.now)
  all_goals
   go_enter func39,ntmps39;go_wp2;go_quiet (fail);go_wp2;go_quiet (fail);go_wp2;go_quiet (fail);go_wp2;go_quiet (fail);first
    |(go_wp2_with (go_at_call 62;refine on_ (E s.st v.out (Mv.z (x':={x with again:=wrap64 (s.now+8)}) (s':=s.xh s.st) h.m.dn.st rfl rfl (y.out s.st v.out))) fun u1 i=> ?_);(first|go_end0|refine aQ (bH rfl _ _ _) rfl ?_);first|exact⟨rfl,i⟩|exact⟨rfl,l,x,⟨rfl,rfl⟩,h.m.dn.dn.dn.dn,h.iv⟩)
def Oy(o:s.Ok)(c:s.Cf)(b:0<=s.ws/\s.ws<=4)(A:0<=s.st/\s.st<=6)(a:s.st<4->s.cl=[]/\s.im=[])(k:4<=s.st->s.Ud)(t:s.Tmd):Rs 39 [] s (.tuple #[]) s.wM:=by
 by_cases h:s.st<4
 ·exact Jz o c b ⟨A.1,by omega⟩ (a h).1 (a h).2
 have e:s.wM=s.Zz:=by unfold S.wM;rw[az (by omega),az (by omega),az (by omega)]
 rw[e];exact Ni o (k (by omega)) t A.2
end Nr
namespace Nr
open Bs Nu
open oh (Nb tu)
open Dh (lU data heavy)
open sQ (four oD rz yF)
variable{w0 w w' u u':kV}{P:Nat->Prop}{G b:Nat}{cs:XV}{l l':Lr}{d d':Sd}{s s' z:S}{x x':X}{v v' lv:Value}{os:lU}
def VH(j:∀c,data os c=(Dh.look os c).getD [])(c:UInt8):four (data os c)=Ref.QQ os c:=by
 rw[j c];show four (Ref.yL os c)=Ref.QQ os c;unfold Ref.QQ
 by_cases f:(Ref.yL os c).length=4
 ·rw[aB f]
  obtain⟨a,b,k,d,g,i⟩:=sQ.Cz f;rw[i,g];unfold Rr.tL;simp[List.foldl];omega
 rw[az f];exact sQ.Cy f
structure Nv (w:kV) (G:Nat) (l:Lr) (p:Nu.Rp) (os:lU):Prop where
 n:p.n=os.length
 at_:Dh.At w p.sa os
 no:∀ad,p.sa=some ad->0<os.length-> ¬lI G l ad.block
 hl:os.length<=268435456
 dd:∀c,data os c=(Dh.look os c).getD []
def Nv.keep{p:Nu.Rp}(h:Nv w G l p os)(k:Mv w (lI G l) u G cs l' d'):Dh.At u p.sa os:=fun i f=>by
 obtain⟨a,e,b,d⟩:=h.at_ i f;have c:u.heap[(a.add (i*2)).block]?=w.heap[(a.add (i*2)).block]?:=k.kept _ (dC w _ b) (by rw[show(a.add (i*2)).block=a.block by unfold Addr.add;split<;>rfl];exact h.no a e (by omega));exact⟨a,e,by rw[<-b];exact bC c,by rw[<-d];exact bC c⟩
def xw{p:Nu.Rp}(h:Nv w G l p os)(k:Mv w (lI G l) u G cs l' d')(a:UInt8):C_ 108 #[.agg p.d,E8 a.toNat] u (.tuple #[E4 ((four (data os a)).getD 0),.bool (four (data os a)).isSome]) (y_ u):=by
 rw[VH h.dd a];exact Ref.Ov a p.mr p.lM p.cl p.yo p.ne p.k0.toNat p.k1.toNat p.k2.toNat p.k3.toNat p.k4.toNat p.k5.toNat (.slice p.sa p.n p.sc) os ⟨p.sa,p.sc,by rw[h.n],h.keep k⟩ h.hl
def KG{p:Nu.Rp}(h:Nv w G l p os)(k:Mv w (lI G l) u G cs l' d')(a:UInt8):C_ 107 #[.slice p.sa p.n p.sc,E8 a.toNat] u (.tuple #[.string ⟨(data os a).toArray⟩,.bool (Dh.look os a).isSome]) (y_ u):=by
 rw[h.dd a];exact Ref.Jm a ⟨p.sa,p.sc,by rw[h.n],h.keep k⟩ h.hl
def Nv.al{p:Nu.Rp}(h:Nv w G l p os){o:Obj}:Nv (w.alloc o) G l p os:=⟨h.n,h.at_.below ((aK _ _).alloc (ae _) o) (ae _),h.no,h.hl,h.dd⟩
def Nt(st:Int):Bool:=st==2||(st==5||st==6)
def MO(st:Int):(st==2)=true/\Nt st=true∨(st==2)=false/\((st==5)=true/\Nt st=true∨(st==5)=false/\Nt st=(st==6)):=by
 unfold Nt
 cases st==2<;>cases st==5<;>simp
def EE(h:Mz w0 P w G l x s)(p:Nu.Rp)(B:Nv w G l p os)(F:Int)(A: ¬(Nt s.st=true/\p.yo=s.nZ/\(yF os).isSome=true)):C_ 109 #[p_ G,.agg p.d,E3 F] w (.tuple #[]) fun u=>Rp l w0 P u G s:=by
 have M:=ll (h.m.al (o:=.cells p.d 127)).base;have E:Hid (∀ {u cs' l' d'},Mv (w.alloc (.cells p.d 127)) (lI G l) u G cs' l' d'->Kn u w.heap.size p.d):=ll (fun z=>lT ((z.kept w.heap.size (by simp) (h.m.out 0).1).trans (ah w _)));have q:=fun {u cs' l' d'} k=> @xw (w.alloc (.cells p.d 127)) u G cs' l l' d' os p B.al k 51;have H:=ll h;have r:=h.m.k;have a:Nt s.st=false∨Nt s.st=true/\(((four (data os 51)).isSome=false)∨(four (data os 51)).isSome=true/\(((((four (data os 51)).getD 0)==0)=true)∨(((four (data os 51)).getD 0)==0)=false/\(p.yo !=s.nZ)=true)):=by
  cases b:Nt s.st
  ·exact aG rfl
  refine aF ⟨rfl,?_⟩;unfold yF at A
  cases h2:four (data os 51)with
  |none=>exact aG rfl
  |some t=>
   rw[h2]at A;refine aF ⟨rfl,?_⟩
   by_cases c:t=0
   ·exact aG (by simpa using c)
   refine aF ⟨by simpa using c,dN.2 fun e=>A ⟨b,e,?_⟩⟩;dsimp only;first|rw[az c];rfl|simp[c]
 clear A;generalize(four (data os 51)).isSome=ok at*;generalize(four (data os 51)).getD 0=t at*;replace a:=ll a
 go_enter func109,ntmps109;go_upto_region 2 with(go_at_call 108;refine on_ (q M.out) fun u1 g=> ?_;have b:=M.out.below g;have J:=b.k;have C:=E.out b);go_cut [8] (fun D wc=>D=.bool (Nt s.st)/\wc=u1);case first=>
  rcases MO s.st with⟨v,f⟩|⟨v,⟨f,i⟩|⟨f,i⟩⟩
  all_goals
   go_wp2;go_meet;first|exact⟨by rw[f],rfl⟩|exact⟨by rw[i],rfl⟩
 obtain⟨rfl,rfl⟩:=hcut;generalize Nt s.st=wt at*
 rcases a.out with j|⟨j,n|⟨n,y|⟨y,I⟩⟩⟩
 all_goals
  subst j;try subst n
  go_wp2;go_quiet (fail);go_wp2;refine aQ (bH rfl _ _ _) rfl ?_;exact⟨rfl,Rp.join H.out.m.al ⟨l,x,⟨rfl,rfl⟩,b.dn,H.out.iv⟩⟩
end Nr
end Go.Proofs.YtnbaacgmlbhhcaaGreatDoor
