import Derived.Test.YtnbaacgmlbhhcaaGreatDoorMg18
import Derived.Test.YtnbaacgmlbhhcaaGreatDoorMg21
set_option linter.all false
set_option maxHeartbeats 8000000
set_option maxRecDepth 10000
open Go.ChangeShapes Go.WideShapes Go.ChangeAt Go.RowKit
open Go.Proofs.Tryz
namespace Go.Proofs.YtnbaacgmlbhhcaaGreatDoor
namespace Nu
open Bs
open oh (Nb uw zZ U4 tu vT)
variable{w0 w w' x y:World}{P:Nat->Prop}{B:Nat}{cs:XV}{l l':Lc}{d d':Sd}{s s':S}{v v':Value}{a:Int}{n:Nb}
def xB(s:S)(a f t:Int)(load:XB):∃i c q z,s.su a f t load={s with id:=i,cl:=c,gq:=q,lost:=z}:=by
 unfold S.su
 split
 ·exact⟨_,_,_,_,rfl⟩
 split
 ·exact⟨_,_,_,_,rfl⟩
 exact⟨_,_,_,_,rfl⟩
abbrev S.xh(s:S)(k:Int):S:={s with st:=k,asked:=s.now}
noncomputable def S.renew (s:S) (k:Int):S:=if k=6 then(s.xh k).say 3 []else(s.xh k).su s.qJ 68 67 ((s.xh k).Cc 3 [])
def IL(o:s.Ok)(k:Int):Ms 128 [E4 k] s (.tuple #[]) (s.renew k):=by
 intro w0 P w B l h;have r:=h.k;unfold S.renew;have n:=Bj false s.lM (s.xh k).addr 0 0 s.card (oh.wE 3 [])
 by_cases a:k=6
 ·rw[aB a]
  have m:(k==6)=true:=by simpa using a
  have H:=ll a;clear a;go_enter func128,ntmps128;go_wp2_with (go_at_call 124;refine on_ (uO (s:=s.xh k) (h.st.st.x rfl rfl) o 3 BJ (by simp) (by simp[Dh.heavy])) fun u1 ⟨p,b⟩=> ?_);go_end0;exact⟨rfl,p,b⟩
 rw[az a];have m:(k==6)=false:=by simpa using a
 clear a;have j:=fun {w0 P w B l} h=> @FH w0 P w B l (s.xh k) (.slice none 0 0) [] h o 3 BJ (by simp) (by simp[Dh.heavy]);have d:= @EM (s.xh k) o s.qJ 68 67 ((s.xh k).Cc 3 []) o.qJ (by omega) (by omega) (aJ n (by omega));generalize(s.xh k).Cc 3 []=L at*;obtain⟨i,c,q,z,e⟩:=xB (s.xh k) s.qJ 68 67 L;rw[e]at d ⊢;go_enter func128,ntmps128;go_wp2;have g:Mx w0 P ((w.setCell (a_ B 25) (E4 k)).setCell (a_ B 39) (E4 s.now)) B l (s.xh k):=h.st.st.x rfl rfl;go_region_held3 (fun u=>u.cell? (a_ B 28)=some (E3 s.qJ)) (first|exact f.cell 28|exact b.cell 28|exact g.dr.cell 28)
  (first|(go_at_call 153;refine on_ (j g.dr) fun u1 b=> ?_)|(go_at_call 129;refine qC d b fun u2 t f v=> ?_))
 go_wp2;go_end0;exact⟨rfl,t,f⟩
noncomputable def S.Zz (s:S):S:=
 if s.ends=false then s
 else if s.over<=wrap64 (s.now-s.gr)%4294967296 then s.drop
 else if s.qA<=wrap64 (s.now-s.gr)%4294967296/\s.st≠6 then s.renew 6
 else if s.old<=wrap64 (s.now-s.gr)%4294967296/\s.st=4 then s.renew 5
 else if s.st≠4/\wrap64 (s.asked+8)<=s.now then s.renew s.st else s
def LC(o:s.Ok):Ms 86 [] s (.tuple #[]) s.Zz:=by
 intro w0 P w B l c;have r:=c.k;unfold S.Zz
 cases hE:s.ends
 case false=>
  simp only[bI];go_enter func86,ntmps86;go_wp2;go_quiet (fail);go_wp2;go_end0;exact⟨rfl,l,c.al.dn⟩
 simp only[eX,bD]
 by_cases g:s.over<=wrap64 (s.now-s.gr)%4294967296
 case pos=>
  rw[aB g];go_enter func86,ntmps86;go_wp2;go_quiet (fail);go_wp2_with (go_at_call 127;refine qC vM c.al.dn fun u1 f d q=> ?_);go_end0;exact⟨rfl,f,d⟩
 rw[az g]
 by_cases p:s.qA<=wrap64 (s.now-s.gr)%4294967296<;>by_cases b:s.st=6<;>by_cases m:s.old<=wrap64 (s.now-s.gr)%4294967296<;>by_cases a:s.st=4<;>by_cases n:wrap64 (s.asked+8)<=s.now
 all_goals (try (exfalso;omega))
 all_goals
   as_aux_lemma=>
  first|have z:(s.st !=6)=true:=by simpa using b|have z:(s.st !=6)=false:=by simpa using b
  first|have y:(s.st==4)=true:=by simpa using a|have y:(s.st==4)=false:=by simpa using a
  first|have A:(s.st !=4)=true:=by simpa using a|have A:(s.st !=4)=false:=by simpa using a
  first|have t:decide (s.st=4)=true:=by simpa using a|have t:decide (s.st=4)=false:=by simpa using a
  first|have v:decide (s.st=6)=true:=by simpa using b|have v:decide (s.st=6)=false:=by simpa using b
  first|have j:=eq_true b|have j:=eq_false b
  first|have i:=eq_true a|have i:=eq_false a
  simp only[p,j,m,i,n,ne_eq,not_true,not_false_eq_true,iX,and_false,gM,f_,bI,bD];simp only[Int.not_le]at g p m n;have D:=ll b;have C:=ll a;clear b a j i;have E:IntKind.i64.wrap (s.asked+8)=wrap64 (s.asked+8):=by unfold wrap64;exact gG _
  go_enter func86,ntmps86;go_wp2;go_quiet (fail);go_wp2_with (go_at_call 128;refine qC (IL o _) c.al.dn fun u1 f d q=> ?_);first|(go_end0;exact⟨rfl,f,d⟩)|(go_end0;exact⟨rfl,l,c.al.dn⟩)|(go_quiet (fail);go_wp2_with (go_at_call 128;refine qC (IL o _) c.al.dn fun u1 f d q=> ?_);go_end0;first|exact⟨rfl,f,d⟩|exact⟨rfl,l,c.al.dn⟩|exact⟨rfl,l,Mw.dn c.al.dn⟩)
def vX(h:Mx w0 P w B l s):C_ 130 #[p_ B] w (E3 s.pz) fun u=>u=w:=by
 have r:=h.k;go_enter func130,ntmps130;go_wp2;go_ret;exact⟨rfl,rfl⟩
abbrev S.sH(s:S):S:={s with fs:=s.fs+1,fu:=wrap64 (s.now+s.qp s.fs)}
noncomputable def S.pW (s:S):S:=s.sH.su s.pz s.sF s.sT s.sL
def Az(o:s.Ok)(j:0<=s.fs/\s.fs<=4):Ms 88 [] s (.tuple #[]) s.pW:=by
 intro w0 P w B l h;have r:=h.k;have d:= @EM s.sH o s.pz s.sF s.sT s.sL o.pz o.sF o.sT o.sL;unfold S.pW;obtain⟨i,c,q,z,e⟩:=xB s.sH s.pz s.sF s.sT s.sL;rw[e]at d ⊢;have f:=fun {w0 P w B l} h=> @vX w0 P w B l s.sH h;go_enter func88,ntmps88;go_wp2_with (go_at_call 123;refine qC (xP o s.fs s.fu j) h fun u1 n g t=> ?_);have a:Mx w0 P ((u1.setCell (a_ B 50) (E4 (s.fs+1))).setCell (a_ B 51) (E4 (wrap64 (s.now+s.qp s.fs)))) B n s.sH:=g.st.st.x rfl rfl;go_region_held3 (fun u=>c_ u B 47 (E6 s.sF)/\c_ u B 48 (E6 s.sT)/\c_ u B 49 (.string s.sL)) (first|exact⟨b.cell 47,b.cell 48,b.cell 49⟩|exact⟨a.dr.cell 47,a.dr.cell 48,a.dr.cell 49⟩)
  (first|(go_at_call 130;refine on_ (f a.dr) fun u m=> ?_;subst m)|(go_at_call 129;refine qC d a.dr fun u2 p b v=> ?_))
 go_wp2;go_end0;exact⟨rfl,p,b⟩
def S.mY(s:S):Bool:=s.phase==1||s.phase==2
def zm(h:Mx w0 P w B l s):C_ 87 #[p_ B] w (.bool s.mY) fun u=>u=w:=by
 have r:=h.k;unfold S.mY
 cases e1:(s.phase==1)
 all_goals
  simp only[jD,iG];go_enter func87,ntmps87;go_wp2;go_ret;exact⟨rfl,rfl⟩
noncomputable def S.xG (s:S):S:=if s.mY=true then if s.now<s.fu then s else if s.fs=4 then s.fail else s.pW else s
def GJ(o:s.Ok)(d:0<=s.fs/\s.fs<=4):Ms 56 [] s (.tuple #[]) s.xG:=by
 intro w0 P w B l h;have r:=h.k;have a:=zm h;have b:= @Bv s s.pW s.fs s.fu _ (aF rfl) (fun _ _=>Az o d);unfold S.xG;generalize(if s.now<s.fu then s else if s.fs=4 then s.fail else s.pW)=z at*
 cases hf:s.mY
 all_goals
  rw[hf]at a;simp only[aY,bI,bD];go_enter func56,ntmps56;go_wp2_with (first|(go_at_call 87;refine on_ a fun u f=> ?_;subst f)|(go_at_call 83;refine qC b h fun u2 g c i=> ?_));go_end0;first|exact⟨rfl,g,c⟩|exact⟨rfl,l,h⟩
end Nu
namespace Nu
open Bs
variable{w0 w w' x y:World}{P:Nat->Prop}{B:Nat}{cs:XV}{l l':Lc}{d d':Sd}{s s':S}{v v':Value}
def Mw.sa3(h:Mw w0 P w B cs l d){k:Nat}{a b c:Value}(o:Out w0 B l k):Mw w0 P (((w.setCell (a_ k 0) a).setCell (a_ k 1) b).setCell (a_ k 2) c) B cs l d:=((h.sa o).sa o).sa o
abbrev wG:XV:=zG_
def xV(h:Mx w0 P w B l s)(f:Int)(g:Tf.sG){o bl:Int}{ts ds:XB}{fa:XO}{d fc:Nat}(J:(g.op:Int)=o)(A:(g.block:Int)=bl)(c:bl<=65535)(M:ts.data.toList=g.text)(E:ds.data.toList=g.data)(I:d=g.fs.length)(m:Tf.wL w fa g.fs)(y:Tf.mM g.fs<=1048576)(z:g.text.length<=1048576)(q:g.data.length<=1048576)(t:Tf.Qh g=0)(a:o=1∨o=4∨o=5):
  C_ 155 #[p_ B,E6 f,.agg (rT o bl ts ds fa d fc)] w (.agg (rG s.port f ⟨(Tf.GD g).toArray⟩)) fun u=>Mx w0 P u B l s:=by
 have j:=fun u (i:y_ w u)=>Tf.ad3 o bl ts ds fa fc g u J t a A (by omega) c M E (m.below i (ae _)) y z q;rw[<-I]at j;clear J A c M E m y z q I t a;generalize(⟨(Tf.GD g).toArray⟩:XB)=R at*;generalize Tf.Qh g=K at*;have r:=h.k;go_enter func155,ntmps155;go_wp2;go_region_held3 (fun u=>Cl u B (cells l s)/\Cl u w.heap.size #[E6 o,E6 bl,.string ts,.string ds,.slice fa d fc]) (first|exact⟨h.al.al.dr.cell,(bx (ah w _) (h.out 0).1 h.al.base.al.dr).1⟩|exact⟨b.cell,(bx (ah w _) (h.out 0).1 b).1⟩|exact⟨(b.sa3 C).cell,(bx (ah w _) (h.out 0).1 (b.sa3 C)).1⟩)
  (first|(go_at_call 199;refine on_ (j _ ((b1_.alloc (by simp) _).drew)) fun u1 p=> ?_;have b:=h.al.base.al.dr.below p;have C:Out (w.alloc (.cells #[E6 o,E6 bl,.string ts,.string ds,.slice fa d fc] 133)) B l (w.heap.size+1):=⟨(h.out 1).1,by simp⟩;have n:u1.heap[w.heap.size+1]?=some (.cells wG 98 (0,0)):=(p.block _ (by simp)).trans (oh.mK w _ _);have H:=lT n)|(go_at_call 150;refine on_ (xI _ _ _) fun u2 i=> ?_;subst i))
 go_wp2;obtain⟨D,F,G⟩:=oh.zQ n (E6 s.port) (E6 f) (.string R);exact aQ (v:=.agg (rG s.port f R)) (by simp[results,results155,go_sem,D,F,G]) rfl ⟨rfl,(h.al.join b).sa3 (h.out 1)⟩
def S.D8(s:S):Tf.sG:=⟨4,(IntKind.u16.wrap (s.pU-1)).toNat,[],[],[]⟩
abbrev S.Oa(s:S):XB:=⟨(Tf.GD s.D8).toArray⟩
def Jq(s:S):((s.D8.block:Nat):Int)=IntKind.u16.wrap (s.pU-1):=by
 have:=oh.Ay (s.pU-1);show(((IntKind.u16.wrap (s.pU-1)).toNat:Nat):Int)=_;omega
def FW(h:Mx w0 P w B l s):C_ 311 #[p_ B] w (.agg (rG s.port s.oJ s.Oa)) fun u=>Mx w0 P u B l s:=by
 have c:=xV (h.al (o:=.cells wG 98)).base.dr s.oJ s.D8 (o:=4) (ts:=⟨#[]⟩) (ds:=⟨#[]⟩) (fa:=none) (fc:=0) rfl (Jq s) (oh.Ay _).2 rfl rfl rfl (fun i d=>absurd d (by simp[S.D8])) (by simp[S.D8,Tf.mM]) (by simp[S.D8]) (by simp[S.D8]) rfl (by decide);unfold S.Oa;generalize(⟨(Tf.GD s.D8).toArray⟩:XB)=R at*;have r:=h.k;go_enter func311,ntmps311;go_wp2;go_region_held3 (Cl · B (cells l s)) (first|exact h.al.dr.cell|exact a.cell|exact((h.al.join a).sa3 (h.out 0)).cell)
  (first|(go_at_call 155;refine on_ c fun u1 a=> ?_;have b:u1.heap[w.heap.size]?=some (.cells wG 98 (0,0)):=(a.kept _ (by simp) (h.out 0).1).trans (ah w _);have m:=lT b))
 go_wp2;obtain⟨f,g,j⟩:=oh.zQ b (E6 s.port) (E6 s.oJ) (.string R);exact aQ (v:=.agg (rG s.port s.oJ R)) (by simp[results,results311,go_sem,f,g,j]) rfl ⟨rfl,(h.al.join a).sa3 (h.out 0)⟩
def strSize(a:XU):(⟨a.toArray⟩:XB).size=a.length:=by simp[ByteArray.size]
def sW(g:Tf.sG):(⟨(Tf.GD g).toArray⟩:XB).size<=1472:=by
 rw[strSize];unfold Tf.GD
 split
 ·rename_i h
  unfold Tf.Qh at h
  split at h
  ·cases h
  split at h
  ·cases h
  split at h
  ·cases h
  omega
 simp
abbrev S.yG(s:S):S:={s with since:=0,sF:=s.port,sT:=s.oJ,sL:=s.Oa,fs:=0,fu:=0}
noncomputable abbrev S.answer (s:S):S:=s.yG.pW
def Kr(o:s.Ok)(b:0<=s.port/\s.port<=65535)(a:0<=s.oJ/\s.oJ<=65535):s.yG.Ok:={o with sF:=b,sT:=a,sL:=aJ (sW _) (by decide)}
def yt(o:s.Ok)(g:0<=s.port/\s.port<=65535)(f:0<=s.oJ/\s.oJ<=65535):Ms 293 [] s (.tuple #[]) s.answer:=by
 intro w0 P w B l h;have r:=h.k;have c:= @Az s.yG (Kr o g f) (show(0:Int)<=0/\(0:Int)<=4 by decide);have b:=fun {w0 P w B l} h=> @FW w0 P w B l {s with since:=0} h;unfold S.answer;generalize s.yG.pW=z at*;go_enter func293,ntmps293;go_wp2_with (first|(go_at_call 311;refine on_ (b (h.st.x rfl rfl)) fun u1 a=> ?_;have j:=a.k)|(go_at_call 88;refine qC c (a.st.st.st.st.st.x rfl rfl) fun u2 i d m=> ?_));go_end0;exact⟨rfl,i,d⟩
abbrev S.withheld(s:S):S:={s with sF:=s.port,sT:=s.oJ,sL:=s.Oa,fs:=1,fu:=wrap64 (s.now+s.qp 0)}
def JM(o:s.Ok):Ms 313 [] s (.tuple #[]) s.withheld:=by
 intro w0 P w B l h;have r:=h.k;go_enter func313,ntmps313;go_wp2_with (first|(go_at_call 311;refine on_ (FW h) fun u1 a=> ?_;have d:=a.k)|(go_at_call 123;refine qC (xP o 0 0 (by decide)) a fun u2 c b f=> ?_));go_end0;exact⟨rfl,c,b.st.st.st.st.st.x rfl rfl⟩
abbrev S.uK(s:S)(p:Int):S:={s with phase:=2,oJ:=p}
def yw(p:Int):Ms 292 [E6 p] s (.tuple #[]) (s.uK p):=by
 intro w0 P w B l h;have r:=h.k;go_enter func292,ntmps292;go_wp2;go_end0;exact⟨rfl,l,h.st.st.x rfl rfl⟩
def why(c:Int):XB:=if c=3 then⟨#[115,105,122,101]⟩else if c=5 then⟨#[112,111,114,116]⟩else⟨#[111,112,116,105,111,110]⟩
def Oc(c:Int)(w:World):C_ 263 #[E6 c] w (.string (why c)) fun u=>u=w:=by
 unfold why
 rcases(by omega:c=3∨c=5∨ ¬c=3/\ ¬c=5)with rfl|rfl|⟨h1,h2⟩
 all_goals
  simp only[Int.reduceEq,bI,bD, *];go_enter func263,ntmps263;go_wp2;go_ret;exact⟨rfl,rfl⟩
abbrev FM(c:Int):Tf.sG:=⟨5,c.toNat,(why c).data.toList,[],[]⟩
noncomputable def S.refuse (s:S) (p c:Int):S:=s.su s.pz s.port p ⟨(Tf.GD (FM c)).toArray⟩
def av0(c:Int):Tf.Qh (FM c)=0:=by
 unfold FM why
 split
 ·rfl
 split<;>rfl
def MV(c:Int):(why c).data.toList.length<=6:=by
 unfold why
 split
 ·decide
 split<;>decide
def EI(o:s.Ok)(v:0<=s.port/\s.port<=65535)(p c:Int)(t:0<=p/\p<=65535)(m:0<=c/\c<=65535):Ms 221 [E6 p,E6 c] s (.tuple #[]) (s.refuse p c):=by
 intro w0 P w B l h;have r:=h.k;have j:=fun {w0 P w B l} h=> @xV w0 P w B l s h p (FM c) 5 c (why c) ⟨#[]⟩ none 0 0 rfl (by show((c.toNat:Nat):Int)=c;omega) m.2 rfl rfl rfl (fun i n=>absurd n (by simp)) (by simp[Tf.mM]) (aJ (MV c) (by decide)) (by simp) (av0 c) (by decide);have d:= @EM s o s.pz s.port p ⟨(Tf.GD (FM c)).toArray⟩ o.pz v t (aJ (sW _) (by decide));unfold S.refuse;generalize(⟨(Tf.GD (FM c)).toArray⟩:XB)=R at*;obtain⟨i,A,q,z,e⟩:=xB s s.pz s.port p R;rw[e]at d ⊢;have g:=fun {w0 P w B l} h=> @vX w0 P w B l s h;go_enter func221,ntmps221;go_wp2_with (go_at_call 263;refine on_ (Oc c _) fun u a=> ?_;replace a:=a.symm;subst a);go_region_held3 (Cl · w.heap.size #[E6 5,E6 c,.string (why c),.string ⟨#[]⟩,.slice none 0 0]) (exact(bx (ah w _) (h.out 0).1 (by first|exact f|exact b|exact b.dr|exact h.al.base.dr)).1)
  (first|(go_at_call 130;refine on_ (g h.al.base.dr) fun u a=> ?_;subst a)|(go_at_call 155;refine on_ (j h.al.base.dr) fun u1 b=> ?_)|(go_at_call 129;refine qC d b fun u2 y f C=> ?_))
 go_wp2;go_end0;exact⟨rfl,y,h.al.join f⟩
noncomputable abbrev S.giveUp (s:S) (p c:Int):S:=(s.refuse p c).fail
def Aq(o:s.Ok)(g:0<=s.port/\s.port<=65535)(p c:Int)(f:0<=p/\p<=65535)(d:0<=c/\c<=65535):Ms 291 [E6 p,E6 c] s (.tuple #[]) (s.giveUp p c):=by
 intro w0 P w B l h;go_enter func291,ntmps291;go_wp2_with (first|(go_at_call 221;refine qC (EI o g p c f d) h fun u1 j a k=> ?_)|(go_at_call 122;refine qC oQ a fun u2 i b m=> ?_));go_end0;exact⟨rfl,i,b⟩
def G7(p:Lt):Ms 260 [.agg p.c] s (.tuple #[]) s.fail:=by
 intro w0 P w B l h;go_enter func260,ntmps260;go_wp2_with (go_at_call 122;refine qC oQ h.al fun u2 b a d=> ?_);go_end0;exact⟨rfl,b,a⟩
end Nu
end Go.Proofs.YtnbaacgmlbhhcaaGreatDoor
