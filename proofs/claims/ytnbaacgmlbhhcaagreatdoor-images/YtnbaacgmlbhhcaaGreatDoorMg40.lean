import Derived.Test.YtnbaacgmlbhhcaaGreatDoorMg33
set_option linter.all false
set_option maxHeartbeats 16000000
set_option maxRecDepth 10000
open Go.ChangeShapes Go.WideShapes Go.ChangeAt Go.RowKit
open Go.Proofs.Tryz
namespace Go.Proofs.YtnbaacgmlbhhcaaGreatDoor
namespace Nr
open Bs Nu
open oh (Nb tu)
variable{w0 w w' u u':World}{P:Nat->Prop}{G b:Nat}{cs:XV}{l l':Lr}{d d':Sd}{s s' z:S}{x x':X}{v v' lv:Value}{fs:Tf.mW}
def Td{n k:Int}(h:0<=n/\n<=10000000/\n%65536=k):wrap64 (n+1)=n+1/\(n+1)%65536=IntKind.u16.wrap (k+1):=by
 rw[bB];unfold wrap64;omega
def VR(o:s.Ok)(k:s.Ud)(hp:0<=s.port/\s.port<=65535)(hf:0<=s.oJ/\s.oJ<=65535)(J:s.phase=2)(op:Int)(E:0<=s.pU/\s.pU<=65535)(ts ds:XB)(fa:XO)(a fc:Nat)(hz:s.im.length<=600000/\ds.size<=300000)(c1: ¬s.nK<(ds.size:Int))(c3: ¬s.cap<(s.im.length:Int)+ds.size):
  Rs1 114 [.agg (Ag op s.pU ts ds fa a fc)] s (.tuple #[]) (s.Cs false ds):=by
 intro w0 P w G l x h hx;have r:=h.m.k;have hm:=MI ⟨h.iv.nx.1,j6 h.iv.nx.2.1 h.iv.b1.2,h.iv.nx.2.2⟩;obtain⟨n1,n2⟩:=Td ⟨h.iv.nx.1,j6 h.iv.nx.2.1 h.iv.b1.2,h.iv.nx.2.2⟩;obtain⟨a3,cc3,h3⟩:∃ao cp,l.sl 3=.slice ao s.im.length cp:=h.m.slice (by decide);have M:=ll (h.m.al (o:=.cells (Ag op s.pU ts ds fa a fc) 133)).base;have I:Hid (∀ {u cs' l' d'},Mv (w.alloc (.cells (Ag op s.pU ts ds fa a fc) 133)) (lI G l) u G cs' l' d'->Kn u w.heap.size (Ag op s.pU ts ds fa a fc)):=ll (fun h'=>lT ((h'.kept w.heap.size (by simp) (h.m.out 0).1).trans (ah w _)));have hw:IntKind.i64.wrap ((s.im.length:Int)+(ds.size:Int))=(s.im.length:Int)+(ds.size:Int):=by rw[Gf];unfold wrap64;omega
 have V:wrap64 s.pU=s.pU:=by unfold wrap64;omega
 have d1:decide (s.nK<(ds.size:Int))=false:=dO c1;have d2:(s.pU !=s.pU)=false:=by simp
 have d3:decide (s.cap<(s.im.length:Int)+(ds.size:Int))=false:=dO c3;have H:=ll h;replace hz:=ll hz
 have Ih:Hid (IvF l.b s.st s.wu s.gr s.asked s.id (IntKind.u16.wrap (s.pU+1)) {x with next:=x.next+1}):=ll ⟨h.iv.b1,h.iv.id,⟨by have:=h.iv.nx.1;show 0<=x.next+1;omega,hx,n2⟩,h.iv.a1,h.iv.a3,h.iv.a5⟩;clear n2 hx;obtain⟨Z,hZ⟩:∃Z,Hid (Z=s.Cs false ds):=⟨_,ll rfl⟩;rw[<-hZ.out];go_enter func114,ntmps114;go_wp2;go_quiet (fail);go_wp2;go_quiet (fail);go_wp2;go_quiet (fail);go_wp2;go_cut [] (fun wc=>∃d,Hid ((d.n=l.n/\d.tb=l.tb)/\Mv (w.alloc (.cells (Ag op s.pU ts ds fa a fc) 133)) (lI G l) wc G (rc d {s with im:=s.im++ds.data.toList} x) d {s.toSd with im:=s.im++ds.data.toList}));case first=>
  go_region_law (refine XE rfl (.tmp 50) (.tmp 52) rfl (show Mv (w.alloc (.cells (Ag op s.pU ts ds fa a fc) 133)) (lI G l) _ G (rc l s x) l s.toSd from by repeat with_reducible first|apply Mv.dr|apply Mv.dn|exact M.out) (by first|rfl|exact h3.symm) rfl (by have:=hz.out;show s.im.length+ds.size<=_;omega) ?_;intro v5 u5 ao5 cp5 hv5 h5;subst hv5;have r5:=h5.k)
  all_goals
   try go_wp2
   go_meet;exact⟨{l with sl:=fun j=>if j=3 then .slice ao5 (s.im.length+ds.size) cp5 else l.sl j},ll ⟨⟨rfl,rfl⟩,by first|exact h5.st.z (x':=x) (s':={s with im:=s.im++ds.data.toList}) (by kernel_rfl) rfl H.out.iv|>.m|exact(h5.st.dr.z (x':=x) (s':={s with im:=s.im++ds.data.toList}) (by kernel_rfl) rfl H.out.iv).m⟩⟩
 rename World=>w6;obtain⟨d,HM⟩:=hcut;have M6:=HM.out.2;have r6:=M6.k;have t:=ll HM.out.1;clear r M;replace M6:=ll M6
 go_upto_region 10 with fail;have h7:Mz (w.alloc (.cells (Ag op s.pU ts ds fa a fc) 133)) (lI G l) ((w6.setCell (a_ G 39) (E4 (x.next+1))).setCell (a_ G 40) (E4 (wrap64 (s.since+1)))) G d {x with next:=x.next+1} (s.got ds):=M6.out.st.st.z rfl rfl (by show IvF d.b _ _ _ _ _ _ _;rw[show d.b=l.b from dF Prod.snd t.out.2];exact Ih.out);have HW:Hid (∀ {u L X},Mz (w.alloc (.cells (Ag op s.pU ts ds fa a fc) 133)) (lI G l) u G L X (s.got ds)->C_ 92 #[p_ G,.agg (rT 4 s.pU ⟨#[]⟩ ⟨#[]⟩ none 0 0)] u (.tuple #[]) fun u'=>Mz (w.alloc (.cells (Ag op s.pU ts ds fa a fc) 133)) (lI G l) u' G L X (s.got ds).withheld):=ll (fun C=>by
  have hb:((s.got ds).D8.block:Int)=s.pU:=by
   rw[Jq]
   show IntKind.u16.wrap (IntKind.u16.wrap (s.pU+1)-1)=s.pU
   rw[bB,bB];omega
  have q:=CG C o (op:=4) (bl:=s.pU) (ts:=⟨#[]⟩) (ds:=⟨#[]⟩) (fa:=none) (n:=0) (fc:=0) (m:=(s.got ds).D8) rfl rfl (by decide) hb E.1 E.2 rfl rfl rfl (fun i hi=>absurd hi (fq _)) (ae _) (show Tf.mM []<=1048576 by decide) (show([]:XU).length<=1048576 by decide) (show([]:XU).length<=1048576 by decide) (T:=s.oJ) (aF ⟨by show(s.phase==1)=false;rw[J];rfl,rfl⟩) hf
  exact on_ q fun u' O=>⟨rfl,⟨O.m,O.iv⟩⟩)
 have HG:= @Ey (s.got ds) o k hp hf J;have f:=ll h7;have hs:(ds.size:Int)<s.nK/\((ds.size:Int)==s.nK)=false∨((ds.size:Int)==s.nK)=true/\ ¬(ds.size:Int)<s.nK/\((wrap64 (s.since+1)==s.oL)=true/\wrap64 (s.since+1)=s.oL∨(wrap64 (s.since+1)==s.oL)=false/\ ¬wrap64 (s.since+1)=s.oL):=by
  by_cases q:(ds.size:Int)<s.nK
  ·exact aG ⟨q,aP.2 (by omega)⟩
  refine aF ⟨bK.2 (by omega),q,?_⟩
  by_cases g:wrap64 (s.since+1)=s.oL
  ·exact aG ⟨bK.2 g,g⟩
  exact aF ⟨aP.2 g,g⟩
 clear r6 h7 hm n1 hw V d1 d3 d2 c1 c3;obtain⟨u7,hu7⟩:∃u7,((w6.setCell (a_ G 39) (E4 (x.next+1))).setCell (a_ G 40) (E4 (wrap64 (s.since+1))))=u7:=⟨_,rfl⟩;rw[hu7]at f ⊢;clear hu7;have r7:=f.out.m.k;have rb7:=I.out f.out.m
 rcases hs with⟨q1,g⟩|⟨q1,g,⟨q3,q4⟩|⟨q3,q4⟩⟩
 ·have D:Hid (Z=((s.got ds).answer).fin false):=ll (by rw[hZ.out];unfold S.Cs;rw[aB q1])
  have zi:((s.got ds).answer).im=s.im++ds.data.toList/\((s.got ds).answer).mJ=s.mJ:=by
   obtain⟨i9,c9,g9,z9,e9⟩:=yU (s.got ds).yG;rw[show(s.got ds).answer=_ from e9];exact⟨rfl,rfl⟩
  have U:((s.got ds).answer).im.length<=1048576:=by rw[zi.1,au,mg];have:=hz.out;omega
  clear zi q1;generalize(s.got ds).answer=z at*;have HF:= @oQ z;have W:Hid ((Hs.wh Hs.kN z.im==z.mJ.data.toList)=true/\Z={z with phase:=3}∨(Hs.wh Hs.kN z.im==z.mJ.data.toList)=false/\Z=z.fail):=ll (by
   rw[D.out]
   unfold S.fin S.done
   cases hq:(Hs.wh Hs.kN z.im==z.mJ.data.toList)
   ·exact aF ⟨rfl,by simp⟩
   exact aG ⟨rfl,by simp⟩)
  have Y:((⟨(Hs.wh Hs.kN z.im).toArray⟩:XB).toList==z.mJ.toList)=(Hs.wh Hs.kN z.im==z.mJ.data.toList):=by rw[bi,bi]
  have HS:=fun {u cs l' d'} (C:Mv (w.alloc (.cells (Ag op s.pU ts ds fa a fc) 133)) (lI G l) u G cs l' d')=>at5 C ⟨z.im.toArray⟩ (by show z.im.toArray.size<=_;simpa using U);clear U D;rw[show(⟨z.im.toArray⟩:XB).data.toList=z.im from rfl]at HS;generalize Hs.wh Hs.kN z.im=sh at*;generalize hbq:(sh==z.mJ.data.toList)=bq at*;replace hbq:=ll hbq
  generalize(⟨sh.toArray⟩:XB)=SH at*;generalize B:(⟨z.im.toArray⟩:XB)=TI at*;have A:=fun {u l' x'} (C:Mv (w.alloc (.cells (Ag op s.pU ts ds fa a fc) 133)) (lI G l) u G (rc l' z x') l' z.toSd)=>oG u 0 (l'.sl 3) z.im (C.rows 3 (by decide));rw[B]at A;replace B:=ll B
  go_quiet (fail);go_wp2_with (go_at_call 116;refine vC HG (l:=d) (x:={x with next:=x.next+1}) ⟨by repeat with_reducible first|apply Mv.dn|exact f.out.m,f.out.iv⟩ fun u8 l8 x8 y c r8=> ?_);obtain⟨a8,c8,hv8⟩:∃ao cp,l8.sl 3=.slice ao z.im.length cp:=c.m.slice (by decide);have v:=fun {u} (C:Mv (w.alloc (.cells (Ag op s.pU ts ds fa a fc) 133)) (lI G l) u G (rc l8 z x8) l8 z.toSd)=>A C;rw[hv8]at v;go_region_held3 (fun u=>Cl u G (rc l8 z x8)/\(convert 55 9 (.slice a8 z.im.length c8)).run prog u=.ok (.string TI) u) (first|exact⟨c.m.dr.k.1,v c.m.dr⟩|exact⟨R.k.1,v R⟩)
   (first|(go_at_call 144;refine on_ (HS c.m.dr) fun u9 hb9=> ?_;have R:=c.m.dr.below hb9;have r9:=R.k))
  rcases W.out with⟨b1,F⟩|⟨b1,F⟩
  all_goals
   subst b1;replace F:=ll F
   go_wp2_with (go_at_call 40;refine vC HF ⟨R,c.iv⟩ fun u10 l10 x10 N h10 r10=> ?_);first|go_end0|refine aQ (bH rfl _ _ _) rfl ?_
   first|exact⟨rfl,by rw[F.out];exact Rp.join H.out.m.al (h10.p ⟨(N.1.trans y.1).trans t.out.1,(N.2.trans y.2).trans t.out.2⟩)⟩|exact⟨rfl,by rw[F.out];exact Rp.join H.out.m.al (R.st.p (x':=x8) (s':={z with phase:=3}) rfl rfl c.iv ⟨y.1.trans t.out.1,y.2.trans t.out.2⟩)⟩
 ·have D:Hid (Z=(s.got ds).answer):=ll (by rw[hZ.out];unfold S.Cs;rw[az g,aB q4])
  clear g q4;go_quiet (fail);go_wp2;go_quiet (fail);go_wp2_with (go_at_call 116;refine vC HG (l:=d) (x:={x with next:=x.next+1}) ⟨by repeat with_reducible first|apply Mv.dn|exact f.out.m,f.out.iv⟩ fun u8 l8 x8 y c r8=> ?_);refine aQ (bH rfl _ _ _) rfl ?_;exact⟨rfl,by rw[D.out];exact Rp.join H.out.m.al (c.p ⟨y.1.trans t.out.1,y.2.trans t.out.2⟩)⟩
 have D:Hid (Z=(s.got ds).withheld):=ll (by rw[hZ.out];unfold S.Cs;rw[az g,az q4]);clear g q4;have rb8:=fun n=>I.out (f.out.m.dn (n:=n));go_quiet (fail);go_wp2;go_quiet (fail);go_wp2_with (go_at_call 92;refine on_ (HW.out (L:=d) (X:={x with next:=x.next+1}) ⟨by repeat with_reducible first|apply Mv.dn|exact f.out.m,f.out.iv⟩) fun u8 c=> ?_);refine aQ (bH rfl _ _ _) rfl ?_;exact⟨rfl,by rw[D.out];exact Rp.join H.out.m.al (c.p t.out)⟩
structure Kh (w:World) (G:Nat) (l:Lr) (fa:XO) (fs:Tf.mW):Prop where
 at_:Tf.wL w fa fs
 no:∀ad,fa=some ad->ad=(a_ ad.block 0)/\ ¬lI G l ad.block
def Kh.keep{fa:XO}(h:Kh w G l fa fs)(k:Mv w (lI G l) u G cs l' d')(i:Nat)(j:i<fs.length):∃g,fa=some (a_ g 0)/\u.cell? (a_ g (i*2))=some (.string ⟨fs[i].1.toArray⟩)/\u.cell? (a_ g (i*2+1))=some (.string ⟨fs[i].2.toArray⟩):=by
 obtain⟨a,e,b,c⟩:=h.at_ i j;obtain⟨f,m⟩:=h.no a e;rw[f]at e b c;rw[nz]at b c;have d:u.heap[a.block]?=w.heap[a.block]?:=k.kept a.block (dC w (a_ a.block (i*2)) b) m;exact⟨a.block,e,by rw[<-b];exact bC d,by rw[<-c];exact bC d⟩
def Kh.al{fa:XO}(h:Kh w G l fa fs){o:Obj}:Kh (w.alloc o) G l fa fs:=⟨h.at_.below ((aK _ _).alloc (ae _) o) (ae _),h.no⟩
def am0(o:s.Ok)(k:s.Ud)(i:0<=s.port/\s.port<=65535)(g:0<=s.oJ/\s.oJ<=65535)(A:s.phase=2)(op bl:Int)(E:0<=bl/\bl<=65535)(l:0<=s.pU/\s.pU<=65535)(ts ds:XB)(fa:XO)(b fc:Nat)(j:s.im.length<=600000/\ds.size<=300000):
  Rs1 114 [.agg (Ag op bl ts ds fa b fc)] s (.tuple #[]) (s.uF false bl s.oJ ds):=by
 by_cases a:s.nK<(ds.size:Int)∨ ¬bl=s.pU∨s.cap<(s.im.length:Int)+ds.size
 ·have q:= @YA s o k i g A op bl E ts ds fa b fc j a
  exact fun h _=>q h
 have c: ¬s.nK<(ds.size:Int):=fun e=>a (aG e);have d:bl=s.pU:=Classical.byContradiction fun e=>a (aF (aG e));have f: ¬s.cap<(s.im.length:Int)+ds.size:=fun e=>a (aF (aF e));rw[S.uF,az c,aB d,az f,d];exact VR o k i g A op l ts ds fa b fc j c f
def aw7{f:Nat}{xs:XL}{r:Value}{Q:Ending->World->Prop}(d:Rs1 f xs s r s')(h:Mz w0 P w G l x s)(c:x.next+1<=l.b)(k:∀u l' x',(l'.n=l.n/\l'.tb=l.tb)->Mz w0 P u G l' x' s'->Kn u G (rc l' s' x')->Q (.returned r) u):D_ f ((p_ G)::xs).toArray w Q:=
 (d h c).mono fun _ u ⟨e,l',x',q,a⟩=>e▸k u l' x' q a a.m.k
def TD(h:Mz w0 P w G l x s)(Z:x.next+1<=l.b)(o:s.Ok)(k:s.Ud)(V:0<=s.port/\s.port<=65535)(hf:0<=s.oJ/\s.oJ<=65535)(E:s.phase=1∨s.phase=2)(hn:0<=s.pU/\s.pU<=65535)(f op bl:Int)(O:0<=f/\f<=65535)(U:0<=bl/\bl<=65535)(ts ds:XB)(fa:XO)(D fc:Nat)(hz:s.im.length<=600000/\ds.size<=300000)(y: ¬(s.phase=1/\op=6)):
  C_ 73 #[p_ G,E4 f,.agg (Ag op bl ts ds fa D fc)] w (.tuple #[]) fun u=>Rp l w0 P u G (if s.phase=1∨f=s.oJ then(if op=5 then s.fail else if op=3 then s.data false bl f ds else s)else if op=5 then s else s.refuse f 5):=by
 have M:=ll (h.m.al (o:=.cells (Ag op bl ts ds fa D fc) 133)).base;have J:Hid (∀ {u cs' l' d'},Mv (w.alloc (.cells (Ag op bl ts ds fa D fc) 133)) (lI G l) u G cs' l' d'->Kn u w.heap.size (Ag op bl ts ds fa D fc)):=ll (fun h'=>lT ((h'.kept w.heap.size (by simp) (h.m.out 0).1).trans (ah w _)));have H:=ll h;have HO:=ll o;have r:=M.out.k;have rb:=J.out M.out;have t:Hid (∀z:S,z.phase=2->z.oJ=f->(∃a b,z={s with phase:=a,oJ:=b})->Rs1 114 [.agg (Ag op bl ts ds fa D fc)] z (.tuple #[]) (z.uF false bl f ds)):=ll (fun z h1 X ⟨a,b,n⟩=>by
  subst n;rw[<-X];exact am0 (s:={s with phase:=a,oJ:=b}) o k V (X▸O) h1 op bl U hn ts ds fa D fc hz)
 have HW:Rs 113 [E4 f,E6 5,.string ⟨#[112,111,114,116]⟩] s (.tuple #[]) (s.refuse f 5):=De o k V f 5 O (by decide);obtain⟨Y,d⟩:=ex_ ((if s.phase=1∨f=s.oJ then(if op=5 then s.fail else if op=3 then s.data false bl f ds else s)else if op=5 then s else s.refuse f 5));rw[<-d];have C:(op==5)=decide (op=5)/\(op !=5)= !decide (op=5):=⟨by by_cases e:op=5<;>simp[e],by by_cases e:op=5<;>simp[e]⟩;have B:(op==3)=decide (op=3):=by by_cases e:op=3<;>simp[e]
 clear h o k V hf hn
 by_cases i:s.phase=1
 case pos=>
  have q1:(s.phase==2)=false:=by rw[i];rfl
  have W:(op !=6)=true:=dN.2 fun e=>y ⟨i,e⟩;rw[aB (aG i)]at d
  by_cases c:op=5
  case pos=>as_aux_lemma=>
   have L:(op==5)=true:=bK.2 c;have A:Hid (Y=s.fail):=ll (by rw[d,aB c]);clear d C B y i c E;go_enter func73,ntmps73;go_wp2_with (go_at_call 40;refine vC oQ (s:=s) ⟨M.out,H.out.iv⟩ fun u3 N T j n R=> ?_);refine aQ (bH rfl _ _ _) rfl ?_;exact⟨rfl,Rp.join H.out.m.al (by rw[A.out];exact n.p j)⟩
  case neg=>
  have L:(op==5)=false:=aP.2 c
  by_cases g:op=3/\bl=1
  case pos=>as_aux_lemma=>
   have j:(op==3)=true:=bK.2 g.1;have e1:(bl==1)=true:=bK.2 g.2;have A:Hid (Y=(s.uK f).uF false bl f ds):=ll (by rw[d,az c,aB g.1,S.data,aB i,aB g.2]);have I:Rs1 114 [.agg (Ag op bl ts ds fa D fc)] (s.uK f) (.tuple #[]) ((s.uK f).uF false bl f ds):=by exact t.out (s.uK f) rfl rfl ⟨2,f,rfl⟩
   clear d C B y i c E g t;go_enter func73,ntmps73;go_wp2_with (go_at_call 114;refine aw7 I (M.out.st.st.z (x':=x) rfl rfl H.out.iv) Z fun u3 N T j n R=> ?_;have rb3:=J.out n.m);refine aQ (bH rfl _ _ _) rfl ?_;exact⟨rfl,Rp.join H.out.m.al (by rw[A.out];exact n.p j)⟩
  as_aux_lemma=>
   have A:Hid (Y=s):=ll (by
    rw[d,az c]
    by_cases e:op=3
    ·rw[aB e,S.data,aB i,az (fun q=>g ⟨e,q⟩)]
    rw[az e])
   have ww:(op==3)=false∨(op==3)=true/\(bl==1)=false:=by
    by_cases e:op=3
    ·exact aF ⟨bK.2 e,aP.2 fun q=>g ⟨e,q⟩⟩
    exact aG (aP.2 e)
   clear d C B y i c E g t
   rcases ww with a1|⟨a1,a2⟩
   all_goals
    go_enter func73,ntmps73;go_wp2;refine aQ (bH rfl _ _ _) rfl ?_;exact⟨rfl,Rp.join H.out.m.al (by rw[A.out];exact⟨l,x,⟨rfl,rfl⟩,M.out,H.out.iv⟩)⟩
 case neg=>
 have F:s.phase=2:=by omega
 have q1:(s.phase==2)=true:=by rw[F];rfl
 by_cases v:f=s.oJ
 case neg=>as_aux_lemma=>
  have e0:(f !=s.oJ)=true:=dN.2 v;rw[az (by omega)]at d
  by_cases c:op=5
  ·have L:(op !=5)=false:=by rw[c];rfl
   have A:Hid (Y=s):=ll (by rw[d,aB c]);clear d C B y i F c E v t;go_enter func73,ntmps73;go_wp2;refine aQ (bH rfl _ _ _) rfl ?_;exact⟨rfl,Rp.join H.out.m.al (by rw[A.out];exact⟨l,x,⟨rfl,rfl⟩,M.out,H.out.iv⟩)⟩
  have L:(op !=5)=true:=dN.2 c;have A:Hid (Y=s.refuse f 5):=ll (by rw[d,az c]);clear d C B y i F c E v t;go_enter func73,ntmps73;go_wp2_with (go_at_call 113;refine vC HW ⟨M.out,H.out.iv⟩ fun u3 N T j n R=> ?_);refine aQ (bH rfl _ _ _) rfl ?_;exact⟨rfl,Rp.join H.out.m.al (by rw[A.out];exact n.p j)⟩
 case pos=>
 have e0:(f !=s.oJ)=false:=by rw[v];simp
 rw[aB (aF v)]at d
 by_cases c:op=5
 case pos=>as_aux_lemma=>
  have L:(op==5)=true:=bK.2 c;have A:Hid (Y=s.fail):=ll (by rw[d,aB c]);clear d C B y i F c E v t;go_enter func73,ntmps73;go_wp2_with (go_at_call 40;refine vC oQ (s:=s) ⟨M.out,H.out.iv⟩ fun u3 N T j n R=> ?_);refine aQ (bH rfl _ _ _) rfl ?_;exact⟨rfl,Rp.join H.out.m.al (by rw[A.out];exact n.p j)⟩
 case neg=>
 have L:(op==5)=false:=aP.2 c
 by_cases g:op=3
 case pos=>as_aux_lemma=>
  have j:(op==3)=true:=bK.2 g;have A:Hid (Y=s.uF false bl f ds):=ll (by rw[d,az c,aB g,S.data,az i]);have I:Rs1 114 [.agg (Ag op bl ts ds fa D fc)] s (.tuple #[]) (s.uF false bl f ds):=by exact t.out s F v.symm ⟨s.phase,s.oJ,rfl⟩
  clear d C B y i F c E g v t;go_enter func73,ntmps73;go_wp2_with (go_at_call 114;refine aw7 I ⟨M.out,H.out.iv⟩ Z fun u3 N T j n R=> ?_);refine aQ (bH rfl _ _ _) rfl ?_;exact⟨rfl,Rp.join H.out.m.al (by rw[A.out];exact n.p j)⟩
 as_aux_lemma=>
  have j:(op==3)=false:=aP.2 g;have A:Hid (Y=s):=ll (by rw[d,az c,az g]);clear d C B y i F c E g v t;go_enter func73,ntmps73;go_wp2;refine aQ (bH rfl _ _ _) rfl ?_;exact⟨rfl,Rp.join H.out.m.al (by rw[A.out];exact⟨l,x,⟨rfl,rfl⟩,M.out,H.out.iv⟩)⟩
def Mv.is{cs':XV}(h:Mv w0 P w G cs l d)(e:cs=cs'):Mv w0 P w G cs' l d:=e▸h
def YW{t:XB}{n:Int}(h:Ch t=some n):0<=n:=by
 unfold Ch at h
 split at h
 ·split at h
  ·rename_i q
   cases h
   have:=q.1;simp at this;exact this.1
  cases h
 cases h
def Pp(s:S)(a v:XB)(n:Int)(b:n=(Ch v).getD (-1)):
  (a=CK/\((decide (8<=n) && decide (n<=s.blk))=true/\s.Kl a v=0/\s.Ef a v={s with nK:=n}∨(decide (8<=n) && decide (n<=s.blk))=false/\s.Kl a v=8/\s.Ef a v=s))∨
  (a=Cw/\((decide (1<=n) && decide (n<=s.win))=true/\s.Kl a v=0/\s.Ef a v={s with oL:=n}∨(decide (1<=n) && decide (n<=s.win))=false/\s.Kl a v=8/\s.Ef a v=s))∨
  (a=Eb/\((decide (0<=n) && decide (n<=s.cap))=true/\s.Kl a v=0/\s.Ef a v=s∨(decide (0<=n) && decide (n<=s.cap))=false/\(decide (0<=n)=true/\s.Kl a v=3/\s.Ef a v=s∨decide (0<=n)=false/\s.Kl a v=8/\s.Ef a v=s)))∨
  (((a.toList==[116,115,105,122,101])=false/\(a.toList==[98,108,107,115,105,122,101])=false/\(a.toList==[119,105,110,100,111,119,115,105,122,101])=false)/\s.Kl a v=8/\s.Ef a v=s):=by
 obtain⟨l,o,p,q,r,t⟩:=ax6;unfold S.Kl S.Ef
 cases hb:Ch v with
 |none=>
  rw[hb]at b;simp only[kE]at b;subst b
  rcases names a with rfl|rfl|rfl|⟨⟨i,j,k⟩,c,d,f⟩
  ·exact aF (aF (aG ⟨rfl,aF ⟨rfl,aF ⟨rfl,rfl,rfl⟩⟩⟩))
  ·exact aG ⟨rfl,aF ⟨rfl,rfl,rfl⟩⟩
  ·exact aF (aG ⟨rfl,aF ⟨rfl,rfl,rfl⟩⟩)
  exact aF (aF (aF ⟨⟨c,d,f⟩,rfl,rfl⟩))
 |some m=>
  rw[hb]at b;simp only[eD]at b;subst b;have y:=YW hb;dsimp only
  rcases names a with rfl|rfl|rfl|⟨⟨i,j,k⟩,c,d,f⟩
  ·refine aF (aF (aG ⟨rfl,?_⟩))
   simp only[bI,l,o,f_,bD]
   by_cases g:s.cap<n
   ·exact aF ⟨by simp;omega,aG ⟨by simpa using y,by rw[aB g],by first|rfl|trivial⟩⟩
   exact aG ⟨by simp;omega,by rw[az g],by first|rfl|trivial⟩
  ·refine aG ⟨rfl,?_⟩
   simp only[bI,p,q,f_,bD,gM]
   cases (decide (8<=n) && decide (n<=s.blk))
   ·exact aF ⟨rfl,rfl,rfl⟩
   exact aG ⟨rfl,rfl,rfl⟩
  ·refine aF (aG ⟨rfl,?_⟩)
   simp only[bI,r,t,f_,bD,gM]
   cases (decide (1<=n) && decide (n<=s.win))
   ·exact aF ⟨rfl,rfl,rfl⟩
   exact aG ⟨rfl,rfl,rfl⟩
  refine aF (aF (aF ⟨⟨c,d,f⟩,?_⟩));simp only[i,j,k,bD,f_];exact⟨by first|rfl|trivial,by first|rfl|trivial⟩
def Vh(h:Mz w0 P w G l x s)(o:s.Ok)(k:s.Ud)(Z:0<=s.port/\s.port<=65535)(a6:s.phase=1)(f bl:Int)(W:0<=f/\f<=65535)(ts ds:XB)(g fc:Nat)(hF:Kh w G l (some (a_ g 0)) fs)(R:∀e ∈ fs,e.2.length<=1048576)(hl:fs.length<=1048576):
  C_ 73 #[p_ G,.int .i64 f,.agg (Ag 6 bl ts ds (some (a_ g 0)) fs.length fc)] w (.tuple #[]) fun u=>Rp l w0 P u G (S.qc f fs s):=by
 obtain⟨n,B⟩:=ex_ fs.length;rw[<-B];have M:=ll (h.m.al (o:=.cells (Ag 6 bl ts ds (some (a_ g 0)) n fc) 133)).base;have U:Hid (∀ {u cs' l' d'},Mv (w.alloc (.cells (Ag 6 bl ts ds (some (a_ g 0)) n fc) 133)) (lI G l) u G cs' l' d'->Kn u w.heap.size (Ag 6 bl ts ds (some (a_ g 0)) n fc)):=ll (fun h'=>lT ((h'.kept w.heap.size (by simp) (h.m.out 0).1).trans (ah w _)));have H:=ll h;have HO:=ll o;have HK:=ll k;have HF:=ll hF;have HP:=ll Z;have HQ:=ll W;have HV:=ll R;have r:=M.out.k;have rb:=U.out M.out;have q1:(s.phase==2)=false:=by rw[a6];rfl
 obtain⟨Y,hY⟩:∃Y,Hid (Y=S.qc f fs s):=⟨_,ll rfl⟩;have eY:=hY.out;rw[<-eY];have a8:(n:Int)<=1048576:=by omega
 replace B:=ll B
 clear h o k hF Z W R a6 hl eY;go_enter func73,ntmps73;go_wp2;go_loopw [68] (fun i wr=>∃(j:Nat) (d q:Int),i=.int .i64 j/\j<=n/\Hid (Y=S.qc f (fs.drop j) {s with nK:=d,oL:=q})/\Hid (Mv (w.alloc (.cells (Ag 6 bl ts ds (some (a_ g 0)) n fc) 133)) (lI G l) wr G (rc l {s with nK:=d,oL:=q} x) l s.toSd)) (fun i _=>n-(intOf i).toNat)
 case atStart=>exact⟨0,s.nK,s.oL,rfl,aR _,hY,M⟩
 clear r rb hY;obtain⟨j,d,q,rfl,hj,V,t⟩:=hrel;have r:=t.out.k;have rb:=U.out t.out
 by_cases hjj:j<n
 case neg=>as_aux_lemma=>
  have ej:Hid (Y=S.answer {s with nK:=d,oL:=q,phase:=2,oJ:=f}):=ll (by
   have:=V.out
   rw[show fs.drop j=[]from eU (by have:=B.out;omega),S.qc]at this
   exact this)
  have a0: ¬(j:Int)<n:=by omega
  have a7:decide ((j:Int)<n)=false:=dO a0;have HA:= @Ey {s with nK:=d,oL:=q,phase:=2,oJ:=f} HO.out HK.out HP.out HQ.out rfl;clear hj hjj V;go_wp2_with (go_at_call 116;refine vC HA (t.out.st.st.z (x':=x) rfl rfl H.out.iv) fun u3 l3 x3 e3 h3 r3=> ?_);go_end0;exact⟨rfl,Rp.join H.out.m.al (by rw[ej.out];exact h3.p e3)⟩
 case pos=>
 have a0:(j:Int)<n:=by omega
 obtain⟨g',ea,c0,c1⟩:=HF.out.al.keep t.out j (by have:=B.out;omega)
 cases ea
 obtain⟨F,J,O,I⟩:∃F,fs[j]'(by have:=B.out;omega)=F/\F ∈ fs/\fs.drop j=F::fs.drop (j+1):=⟨_,rfl,dw _,bV (by have:=B.out;omega)⟩;rw[J]at c0 c1;have R:=HV.out F O;have a:=V.out;rw[I,S.qc]at a;obtain⟨T,E⟩:∃T:XB,T=⟨F.1.toArray⟩:=⟨_,rfl⟩;obtain⟨L,A⟩:∃L:XB,L=⟨F.2.toArray⟩:=⟨_,rfl⟩;rw[<-E,<-A]at a;rw[<-E]at c0;rw[<-A]at c1;obtain⟨b,C⟩:=ex_ ((Ch L).getD (-1));have HN:=fun u=>Vy L (by rw[A,strSize];exact R) u;rw[<-C]at HN;have WB:=fun u=>Ref.vN b 8 s.blk u;have WW:=fun u=>Ref.vN b 1 s.win u;have WT:=fun u=>Ref.vN b 0 s.cap u;have ways:=Pp {s with nK:=d,oL:=q} T L b C;have X:=fun c=> @De {s with nK:=d,oL:=q} HO.out HK.out HP.out f c HQ.out;generalize S.Kl {s with nK:=d,oL:=q} T L=ec at ways a;generalize S.Ef {s with nK:=d,oL:=q} T L=sm at ways a;dsimp only at ways;generalize(decide (8<=b) && decide (b<=s.blk))=b8 at*;generalize(decide (1<=b) && decide (b<=s.win))=b1 at*;generalize(decide (0<=b) && decide (b<=s.cap))=b0 at*;have Z:Hid (b=b):=ll rfl;generalize hbp:decide (0<=b)=bp at*;have W8:Rs 113 [.int .i64 f,.int .u16 8,.string ⟨#[111,112,116,105,111,110]⟩] _ _ _:=X 8 (by decide);replace X:Rs 113 [.int .i64 f,.int .u16 3,.string ⟨#[115,105,122,101]⟩] _ _ _:=X 3 (by decide)
 clear C E A I J O R V
 rcases ways with⟨rfl,⟨N,y,v⟩|⟨N,y,v⟩⟩|⟨rfl,⟨N,y,v⟩|⟨N,y,v⟩⟩|⟨rfl,⟨N,y,v⟩|⟨N,⟨a4,y,v⟩|⟨a4,y,v⟩⟩⟩|⟨⟨e1,e2,e3⟩,y,v⟩
 all_goals
   as_aux_lemma=>
  subst y;rw[v]at a;first|rw[aB rfl]at a|rw[az (by decide)]at a
  replace a:=ll a
  try subst N
  try subst a4
  clear v Z;try unfold CK at*
  try unfold Cw at*
  try unfold Eb at*
  go_wp2_with (first|(go_at_call 115;refine on_ (HN _) fun u1 D=> ?_;subst D)|(go_at_call_of 31 (Value.int .i64 8);refine on_ (WB _) fun u2 D=> ?_;subst D)|(go_at_call_of 31 (Value.int .i64 1);refine on_ (WW _) fun u2 D=> ?_;subst D)|(go_at_call_of 31 (Value.int .i64 0);refine on_ (WT _) fun u2 D=> ?_;subst D)|(go_at_call_of 113 (Value.int .u16 3);refine vC X ⟨t.out.al,H.out.iv⟩ fun u5 l5 x5 e5 h5 r5=> ?_)|(go_at_call_of 113 (Value.int .u16 8);refine vC W8 ⟨t.out.al,H.out.iv⟩ fun u5 l5 x5 e5 h5 r5=> ?_)|(go_at_call 40;refine vC oQ h5 fun u6 l6 x6 e6 h6 r6=> ?_));first
   |(refine aQ (bH rfl _ _ _) rfl ?_;exact⟨rfl,Rp.join H.out.m.al (by rw[a.out];exact h6.p ⟨e6.1.trans e5.1,e6.2.trans e5.2⟩)⟩)
   |(go_roundw
     case rel=>first|exact⟨j+1,d,q,by go_num,by omega,a,ll t.out.al⟩|exact⟨j+1,b,q,by go_num,by omega,a,ll (t.out.st.is rfl).al⟩|exact⟨j+1,d,b,by go_num,by omega,a,ll (t.out.st.is rfl).al⟩
     simp[intOf];omega)
def Yy(h:Mz w0 P w G l x s)(o:s.Ok)(k:s.Ud)(b:0<=s.port/\s.port<=65535)(E:s.phase=1)(f bl:Int)(A:0<=f/\f<=65535)(ts ds:XB)(fa:XO)(fc:Nat):
  C_ 73 #[p_ G,.int .i64 f,.agg (Ag 6 bl ts ds fa 0 fc)] w (.tuple #[]) fun u=>Rp l w0 P u G (s.uK f).answer:=by
 have M:=ll (h.m.al (o:=.cells (Ag 6 bl ts ds fa 0 fc) 133)).base;have j:Kn (w.alloc (.cells (Ag 6 bl ts ds fa 0 fc) 133)) w.heap.size (Ag 6 bl ts ds fa 0 fc):=lT (ah w _);have H:=ll h;have r:=M.out.k;have q:(s.phase==2)=false:=by rw[E];rfl
 have c:= @Ey (s.uK f) o k b A rfl;clear h o k b A E;go_enter func73,ntmps73;go_wp2;go_loopw [68] (fun i wr=>i=.int .i64 0/\Hid (Mv (w.alloc (.cells (Ag 6 bl ts ds fa 0 fc) 133)) (lI G l) wr G (rc l s x) l s.toSd)) (fun i _=>0)
 case atStart=>exact⟨rfl,M⟩
 clear r j M;obtain⟨rfl,a⟩:=hrel;have r:=a.out.k;go_wp2_with (go_at_call 116;refine vC c (a.out.st.st.z (x':=x) rfl rfl H.out.iv) fun u3 n v d g t=> ?_);go_end0;exact⟨rfl,Rp.join H.out.m.al (g.p d)⟩
def al8(h:Mz w0 P w G l x s)(y:x.next+1<=l.b)(o:s.Ok)(k:s.Ud)(n:0<=s.port/\s.port<=65535)(z:0<=s.oJ/\s.oJ<=65535)(E:s.phase=1∨s.phase=2)(C:0<=s.pU/\s.pU<=65535)(f:Int)(A:0<=f/\f<=65535)(B:s.im.length<=600000)(g:Tf.sG)(d:g.block<=65535/\g.data.length<=300000/\(∀e ∈ g.fs,e.2.length<=1048576)/\g.fs.length<=1048576)(fa:XO)(fc:Nat)(j:Kh w G l fa g.fs):
  C_ 73 #[p_ G,.int .i64 f,.agg (Ki g fa fc)] w (.tuple #[]) fun u=>Rp l w0 P u G (if s.phase=1∨f=s.oJ then s.letter false g f else if(g.op:Int)=5 then s else s.refuse f 5):=by
 by_cases c:s.phase=1/\(g.op:Int)=6
 ·rw[aB (aG c.1),S.letter,az (by rw[c.2];decide),aB c.2,S.opt,aB c.1]
  have q:C_ 73 #[p_ G,.int .i64 f,.agg (Ag 6 g.block ⟨g.text.toArray⟩ ⟨g.data.toArray⟩ fa g.fs.length fc)] w (.tuple #[]) fun u=>Rp l w0 P u G (S.qc f g.fs s):=by
   cases hfs:g.fs with
   |nil=>exact Yy h o k n c.1 f g.block A ⟨g.text.toArray⟩ ⟨g.data.toArray⟩ fa fc
   |cons a r=>
    rw[hfs]at j d;obtain⟨v,t,_⟩:=j.keep h.m.base 0 (by simp);subst t;exact Vh h o k n c.1 f g.block A ⟨g.text.toArray⟩ ⟨g.data.toArray⟩ v fc j d.2.2.1 d.2.2.2
  rw[<-c.2]at q;exact q
 have q:=TD h y o k n z E C f g.op g.block A ⟨by omega,by have:=d.1;omega⟩ ⟨g.text.toArray⟩ ⟨g.data.toArray⟩ fa g.fs.length fc ⟨B,by rw[strSize];exact d.2.1⟩ c;have e:s.letter false g f=(if(g.op:Int)=5 then s.fail else if(g.op:Int)=3 then s.data false g.block f ⟨g.data.toArray⟩else s):=by
  unfold S.letter
  by_cases i:(g.op:Int)=6
  ·rw[i,az (by decide),aB rfl,az (by decide),az (by decide),S.opt,az (fun p=>c ⟨p,i⟩)]
  rw[az i]
 rw[e];exact q
end Nr
end Go.Proofs.YtnbaacgmlbhhcaaGreatDoor
