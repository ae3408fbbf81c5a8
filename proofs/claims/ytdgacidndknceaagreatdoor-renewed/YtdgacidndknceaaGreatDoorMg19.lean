import Derived.Test.YtdgacidndknceaaGreatDoorMg18
import Derived.ArgAppend
import Derived.WalkSmall
set_option linter.all false
set_option maxHeartbeats 8000000
set_option maxRecDepth 100000
open Go.ChangeShapes Go.WideShapes Go.ChangeAt Go.RowKit
open Go renaming World → fV, Calls → f_
open Go.RowKit renaming Below → gm
open Go.Proofs.Tryz renaming prog → Vh
open Go.Proofs.Tryz
namespace Go.Proofs.YtdgacidndknceaaGreatDoor
namespace Js
open Bs
variable{w0:fV} {P:Nat→Prop} {w w':fV} {B:Nat} {m m':Mc}
theorem aV6(n:Nb)(now:Int)(b:Bool)(hb:decide (n.till<=now)=b)(w:fV):f_ Vh 132 #[n.v,.int .i64 now] w fun ee w'=>ee=.returned (.bool b)/\gm w.heap.size w w':=by
 subst hb;unfold Nb.v;go_enter func132,ntmps132;go_wp2;go_ret;exact⟨rfl,(bn9 _ _).alloc (bn7 _) _⟩
theorem aT0(n:Nb)(h0:n.asks=0)(now:Int)(b:Bool)(hb:decide (n.till<=now)=b)(w:fV):f_ Vh 131 #[n.v,.int .i64 now] w fun ee w'=>ee=.returned (.bool b)/\gm w.heap.size w w':=by
 have HU:=M0 (fun u=>aV6 n now b hb u);have HK:=M0 (fun u=>af8 n u);rw[h0]at HK;unfold Nb.v at HU HK ⊢;have HA:=M0 (bn3 w (.cells (rM n.asks n.k0.toNat n.k1.toNat n.k2.toNat n.k3.toNat n.k4.toNat n.k5.toNat n.till n.load) 157 (0,0)));rw[h0]at HU HA ⊢;clear hb;go_enter func131,ntmps131;go_wp2_with fail;refine on_ (HU _) fun u hu=>?_;have hr:=(hu.block w.heap.size (by simp)).trans HA;obtain⟨c0,c1,c2,c3,c4,c5,c6,c7,c8⟩:=nine hr;have HB:=M0 (b1_.trans (hu.mono (by simp)));clear hu
 cases b with
 |false=>
  go_wp2;go_ret;exact⟨rfl,HB⟩
 |true=>
  go_wp2_with fail;rw[h0]at HK;refine on_ (HK _) fun u2 hu2=>?_;have hwu:w.heap.size<=u.heap.size:=HB.size;have HB2:=M0 (HB.trans (hu2.mono hwu));clear hu2 c0 c1 c2 c3 c4 c5 c6 c7 c8;go_wp2;go_ret;exact⟨rfl,HB2⟩
abbrev ak(x:Nb):DataW Unit:=.map [(.int .u32 167772161,x.d)]
theorem aY1{Q:Nb->Prop}(x:Nb)(h:Q x):Cd Q (ak x):=by
 intro a ha;have e:a=167772161:=by
  by_cases e:(Lit.int .u32 a)=.int .u32 167772161
  ·injection e
  rw[Maps.has_eq]at ha;simp only[bz2,aj,bE2]at ha;rw[Maps.sameKey_ne (Ne.symm e)]at ha
  cases ha
 subst e;exact⟨x,rfl,h⟩
theorem one_has(x:Nb)(a:Int)(ha:Maps.has (ak x) (.int .u32 a)=true):a=167772161:=by
 by_cases e:(Lit.int .u32 a)=.int .u32 167772161
 ·injection e
 rw[Maps.has_eq]at ha;simp only[bz2,aj,bE2]at ha;rw[Maps.sameKey_ne (Ne.symm e)]at ha
 cases ha
theorem aU8{bm:Nat}(now:Int)(x:Nb)(h0:x.asks=0)(hown:w.ownsMap Vh 36 Qz bm 4 (ak x)):
  f_ Vh 83 #[.map (some bm),.int .i64 now] w fun ee w'=>ee=.returned (.tuple #[])/\∃D',(D'=ak x/\now<x.till∨D'=.map []/\x.till<=now)/\w'.ownsMap Vh 36 Qz bm 4 D'/\PU w w' bm:=by
 obtain⟨Q,hQ⟩:∃Q:Nb->Prop,Q=fun n=>n.asks=0/\n.till=x.till:=⟨_,rfl⟩;have HC1:Hid (Cd Q (ak x)):=M0 (by rw[hQ];exact aY1 x ⟨h0,rfl⟩);have HC0:Hid (Cd Q (.map [])):=M0 (Cd.nil _);have hlt:=JA hown;have HG:Hid (∀n u,Q n->f_ Vh 131 #[n.v,.int .i64 now] u fun ee w'=>ee=.returned (.bool (decide (x.till<=now)))/\gm u.heap.size u w'):=M0 (fun n u hq=>by
  rw[hQ]at hq
  exact aT0 n hq.1 now _ (by rw[hq.2]) u)
 unfold Nb.v at HG;obtain⟨gb,hgb⟩:=ex_ (decide (x.till<=now));rw[<-hgb]at HG;obtain⟨D,hD⟩:=ex_ (ak x);rw[<-hD]at hown HC1;clear hQ h0;go_enter func83,ntmps83;go_wp2_with (first|(at_range;refine wpList_range_own _ rfl _ 102 rfl 36 157 (bu6 bt8) bu1 Qz bm 4 D rfl hown ?_;intro w1 hrg1 hg1 hs1)|go_in);go_frame
 go_loopw [] (fun wr=>∃(left:Lit->Bool) (cnt:Nat) (D':DataW Unit),wr.ranges Vh 36 Qz bm w.heap.size 4 D' left cnt/\Hid (D'=D/\(left (.int .u32 167772161)=true∨now<x.till)∨D'=.map []/\x.till<=now)/\Hid (PU w wr bm)) (fun wr=>wr.rangeLeft bm w.heap.size)
 case atStart=>exact⟨_,_,_,hrg1,M0 (bo1 ⟨rfl,bo1 (by rw[hD];rfl)⟩),M0 ((PU.refl w bm).grown hg1 (by simp))⟩
 obtain⟨left,cnt,D',hrg,HD,HT⟩:=hrel;rename fV=>wr;have hm0:=hrg.left_eq;have HCd:Hid (Cd Q D'):=M0 (by
  rcases gB HD with⟨e,_⟩|⟨e,_⟩
  ·rw[e];exact HC1
  rw[e];exact HC0)
 go_wp2_with (first|(at_next;refine aN (Q:=Q) rfl _ rfl bm w.heap.size 4 D' left cnt HCd rfl hrg ?_ ?_)|go_in)
 ·intro hc0 hl0
  have HE:Hid (D'=ak x/\now<x.till∨D'=.map []/\x.till<=now):=M0 (by
   rcases gB HD with⟨e,e2|e2⟩|e
   ·rw[hl0]at e2;cases e2
   ·exact bo1 ⟨e.trans hD,e2⟩
   exact bo3 e)
  go_wp2;go_end0;exact⟨rfl,D',HE,hrg.owns,HT⟩
 intro y c w2 cnt2 hy1 hy2 hly hhy hq hcy hrg2 hlt2 hg2 hs2 hen;have HDD:Hid (D'=D/\y=167772161):=M0 (by
  rcases gB HD with⟨e,_⟩|⟨e,_⟩
  ·rw[e,hD]at hhy;exact⟨e,one_has x y hhy⟩
  rw[e]at hhy;cases hhy)
 have HQ:=M0 hq;clear hhy hly hcy hq;have hwl:w.heap.size<=wr.heap.size:=HT.size;have HT2:=M0 ((HT.grown hg2 (fun k e=>by cases e;exact bo1 (bn7 _))).grown (World.grownBy_alloc w2 (.cells (rM c.asks c.k0.toNat c.k1.toNat c.k2.toNat c.k3.toNat c.k4.toNat c.k5.toNat c.till c.load) 157 (0,0)) none) (by simp));have HR2:=M0 (hrg2.alloc (.cells (rM c.asks c.k0.toNat c.k1.toNat c.k2.toNat c.k3.toNat c.k4.toNat c.k5.toNat c.till c.load) 157 (0,0)));have hyk:=aG2 y ⟨hy1,hy2⟩;clear hrg hrg2 HT
 cases gb with
 |true=>
  have hup:x.till<=now:=bA1 hgb.symm;clear hgb;go_wp2_with (first|(go_at_call 131;refine(HG c _ HQ).mono ?_;rintro ee u ⟨rfl,hu⟩;have hrg3:=HR2.kept (aK hu) (by simp) (by simp);have HT3:=M0 (HT2.grown (aK hu) (by simp));clear hu)|(at_delete;refine wpList_delete_ranges _ rfl _ _ 102 36 rfl 157 (bu6 bt8) bu1 Qz bm w.heap.size 4 D' _ _ rfl hrg3 _ _ rfl hyk ?_;intro w3 cnt3 hrg4 hle hturn)|go_in);go_frame
  go_roundw
  case rel=>exact⟨_,cnt3,_,hrg4,M0 (bo3 ⟨by rw[HDD.1,HDD.2,hD];rfl,hup⟩),M0 (HT3.grown hturn.grown (fun k e=>by cases e;exact bo3 rfl))⟩
  rw[hrg4.left_eq,hm0];omega
 |false=>
  have hup: ¬x.till<=now:=of_decide_eq_false hgb.symm;clear hgb;go_wp2_with (first|(go_at_call 131;refine(HG c _ HQ).mono ?_;rintro ee u ⟨rfl,hu⟩;have hrg3:=HR2.kept (aK hu) (by simp) (by simp);have HT3:=M0 (HT2.grown (aK hu) (by simp));clear hu)|go_in);go_roundw
  case rel=>exact⟨_,cnt2,_,hrg3,M0 (bo1 ⟨HDD.1,bo3 (by omega)⟩),HT3⟩
  rw[hrg3.left_eq,hm0];exact hlt2
theorem aX3{bm:Nat}{D:DataW Unit}(now:Int)(hown:w.ownsMap Vh 36 Qz bm 4 D)(hC:Cd (fun n=>now<n.till) D):
  f_ Vh 84 #[.map (some bm),.int .i64 now] w fun ee w'=>ee=.returned (.slice none 0 0)/\gm w.heap.size w w':=by
 have HC:=M0 hC;have hsz:=hown.size_le;have hlt:=JA hown;have HG:Hid (∀(n:Nb) u,now<n.till->f_ Vh 132 #[n.v,.int .i64 now] u fun ee w'=>ee=.returned (.bool false)/\gm u.heap.size u w'):=M0 (fun n u hq=>aV6 n now false (by rw[bw2];omega) u);unfold Nb.v at HG;clear hC;go_enter func84,ntmps84;go_wp2_with (first|(at_range;refine wpList_range_own _ rfl _ 102 rfl 36 157 (bu6 bt8) bu1 Qz bm 4 D rfl hown ?_;intro w1 hrg1 hg1 hs1)|go_in);go_frame
 go_loopw [5] (fun v wr=>∃(left:Lit->Bool) (cnt:Nat),v=.slice none 0 0/\wr.ranges Vh 36 Qz bm w.heap.size 4 D left cnt/\Hid (gm w.heap.size w wr)) (fun _ wr=>wr.rangeLeft bm w.heap.size)
 case atStart=>exact⟨_,_,rfl,hrg1,M0 (aG (bn9 _ _) hg1 (bn7 _))⟩
 obtain⟨left,cnt,rfl,hrg,HB⟩:=hrel;have hm0:=hrg.left_eq;go_wp2_with (first|(at_next;refine aN (Q:=fun n=>now<n.till) rfl _ rfl bm w.heap.size 4 D left cnt HC rfl hrg ?_ ?_)|go_in)
 ·intro hc0 hl0
  have HS:=M0 (fun u=>Nf u);clear hl0 hm0 hrg1 hown hg1 hs1;go_wp2_with fail;refine(HS _).mono ?_;rintro ee u ⟨rfl,rfl⟩;clear hrg;go_wp2;go_ret;exact⟨rfl,HB⟩
 intro y c w2 cnt2 hy1 hy2 hly hhy hq hcy hrg2 hlt2 hg2 hs2 hen;have HQ:=M0 hq;clear hhy hly hq hcy;have hwl:w.heap.size<=wr.heap.size:=HB.size;have HB2:=M0 ((jh HB hg2 hwl (bn7 _)).alloc (by omega) (.cells (rM c.asks c.k0.toNat c.k1.toNat c.k2.toNat c.k3.toNat c.k4.toNat c.k5.toNat c.till c.load) 157 (0,0)));have HR2:=M0 (hrg2.alloc (.cells (rM c.asks c.k0.toNat c.k1.toNat c.k2.toNat c.k3.toNat c.k4.toNat c.k5.toNat c.till c.load) 157 (0,0)));clear hrg hrg2 HB;go_wp2_with fail;refine on_ (HG c _ HQ) fun u hu=>?_;have hrg3:=HR2.kept (aK hu) (by simp) (by simp);have HB3:=M0 (HB2.trans (hu.mono HB2.size));clear hu HR2 HB2 hen hg2;go_wp2;go_roundw
 case rel=>exact⟨_,cnt2,rfl,hrg3,HB3⟩
 rw[hrg3.left_eq,hm0];exact hlt2
theorem aS0(h:Mx w0 P w B m)(x:Nb)(h0:x.asks=0)(hcd:m.cd=ak x):f_ Vh 49 #[p_ B] w fun ee w'=>ee=.returned (.tuple #[])/\∃mz,(mz=m/\m.now<x.till∨mz=m.bn (.map [])/\x.till<=m.now)/\Mx w0 P w' B mz:=by
 have HM:=M0 h;have c0:=h.c0;have c14:=h.c14;clear h;have HF:Hid (∀u,Mx w0 P u B m->f_ Vh 83 #[.map (some m.bm),.int .i64 m.now] u fun ee w'=>ee=.returned (.tuple #[])/\∃D,((D=ak x/\m.now<x.till∨D=.map []/\x.till<=m.now)/\Cd (fun n=>m.now<n.till) D)/\Mx w0 P w' B (m.bn D)):=M0 (fun u hu=>(aU8 m.now x h0 (by have q:=hu.map;rw[hcd]at q;exact q)).mono (by
  rintro ee u2 ⟨rfl,D,h1,h2,h3⟩
  refine⟨rfl,D,⟨h1,?_⟩,hu.mapped h3 h2⟩
  rcases h1 with⟨rfl,q⟩|⟨rfl,q⟩
  ·exact aY1 x q
  exact Cd.nil _))
 have HE:Hid (∀D,(D=ak x/\m.now<x.till∨D=.map []/\x.till<=m.now)->(m.bn D=m/\m.now<x.till∨m.bn D=m.bn (.map [])/\x.till<=m.now)):=M0 (fun D hD=>by
  rcases hD with⟨rfl,q⟩|⟨rfl,q⟩
  ·refine bo1 ⟨?_,q⟩
   cases m
   dsimp only at hcd
   subst hcd
   rfl
  exact bo3 ⟨rfl,q⟩)
 clear hcd h0;go_enter func49,ntmps49;go_wp2;go_region_held3 (fun u=>u.cell? (a_ B 0)=some (.map (some m.bm))/\u.cell? (a_ B 14)=some (.int .i64 m.now)) (go_keep)
  (first|(go_at_call 83;refine(HF _ HM.drew).mono ?_;rintro ee u ⟨rfl,D,hD,h1⟩;have d0:u.cell? (a_ B 0)=some (.map (some m.bm)):=h1.c0;have d14:u.cell? (a_ B 14)=some (.int .i64 m.now):=h1.c14))
 have H1:=M0 h1;have HZ:=M0 (HE D hD.1);have HU:Hid (∀u2,Mx w0 P u2 B (m.bn D)->f_ Vh 84 #[.map (some m.bm),.int .i64 m.now] u2 fun ee w'=>ee=.returned (.slice none 0 0)/\gm u2.heap.size u2 w'):=M0 (fun u2 hu=>aX3 (D:=D) m.now hu.map hD.2);clear h1 hD HM c0 c14 HF HE;go_wp2;go_region_held3 (fun u=>u.cell? (a_ B 0)=some (.map (some m.bm))/\u.cell? (a_ B 14)=some (.int .i64 m.now)) (go_keep)
  (first|(go_at_call 84;refine(HU _ H1.drew).mono ?_;rintro ee u2 ⟨rfl,hb2⟩;have h2:=(H1.drew).below hb2;have e0:u2.cell? (a_ B 0)=some (.map (some m.bm)):=h2.c0;have e14:u2.cell? (a_ B 14)=some (.int .i64 m.now):=h2.c14))
 have H2:=M0 h2;clear h2 hb2 H1 HU;go_wp2;refine br4 1 ?_;rw[bp5];go_wp2;go_end0;exact⟨rfl,_,HZ,H2⟩
theorem aX5(h:Mx w0 P w B m)(ho:m.Ok)(ta f t:Int)(load:ByteArray)(hta:0<=ta/\ta<=4294967295)(hF:0<=f/\f<=65535)(hT:0<=t/\t<=65535)(hl:load.size<=262144)(x:Nb)(hr:Room m.cd (m.hop ta))(hx:m.cd.atKey (.int .u32 (m.hop ta)) bC.d=x.d)(hn:Maps.has m.cd (.int .u32 (m.hop ta))=true)(hk:x.asks≠0):
  f_ Vh 143 #[p_ B,.int .u32 ta,.agg (rI f t load)] w fun ee w'=>ee=.returned (.tuple #[])/\Mx w0 P w' B (m.Ty ta f t load x):=by
 have hhop:=ho.hop hta;have HM:=M0 h;have HP:Hid (∀u,Mx w0 P u B m->f_ Vh 181 #[p_ B,.int .u32 ta,.agg (rI f t load)] u fun ee w'=>ee=.returned (.string (m.lD ta f t load))/\Mx w0 P w' B m.Ww):=M0 (fun u hu=>GU hu ho ta f t load hta hF hT hl);have HH:Hid (∀u,Mx w0 P u B m.Ww->f_ Vh 182 #[p_ B,.int .u32 ta] u fun ee w'=>ee=.returned (.int .u32 (m.hop ta))/\gm u.heap.size u w'):=M0 (fun u hu=>ap8 hu ta);have HL:Hid (∀u,Mx w0 P u B m.Ww->(Instr.lookup 102 (.map (some m.bm)) (.int .u32 (m.hop ta)) true).run Vh u=.ok (.tuple #[.agg (rM x.asks x.k0.toNat x.k1.toNat x.k2.toNat x.k3.toNat x.k4.toNat x.k5.toNat x.till x.load),.bool (Maps.has m.cd (.int .u32 (m.hop ta)))]) u):=M0 (fun u hu=>YE (D:=m.cd) hu.map _ hhop x hx);have HQ:Hid (∀u,Mx w0 P u B m.Ww->f_ Vh 134 #[.map (some m.bm),.int .u32 (m.hop ta),Nb.v {x with load:=m.lD ta f t load}] u fun ee w'=>ee=.returned (.tuple #[])/\Mx w0 P w' B (m.Ty ta f t load x)/\PU u w' m.bm):=M0 (fun u hu=>Z6 (m:=m.Ww) hu hr _);have HY:=M0 (af8 x);unfold Nb.v at HY HQ;obtain⟨pk,hpk⟩:=ex_ (m.lD ta f t load);obtain⟨hp,hhp⟩:=ex_ (m.hop ta);obtain⟨mz,hmz⟩:=ex_ (m.Ty ta f t load x);rw[hn]at HL;have HBM:Hid (mz.bm=m.bm):=M0 (by rw[hmz];rfl);rw[<-hmz]at HQ ⊢;rw[<-hpk]at HP HQ;rw[<-hhp]at HH HL HQ;clear h ho hr hx hpk hhp hta hF hT hl hhop hmz;go_enter func143,ntmps143;go_wp2_with fail;refine on_ (HP _ (HM.alloc _)) fun u h1=>?_;have H1:=M0 h1;clear h1 HP HM;go_wp2_with fail;refine on_ (HH _ H1) fun u2 hb2=>?_;have H2:=M0 (H1.below hb2);have c0:u2.cell? (a_ B 0)=some (.map (some m.bm)):=H2.c0;have hlt:=H2.lt;have hB:B≠u2.heap.size:=bo5 hlt;have hL:=HL _ H2;clear hb2 H1 HH HL;have hk:(x.asks==0)=false:=by simpa using hk
 rw[hk]at HY;clear hn;go_wp2_with fail;refine on_ (HY _) fun u3 hb3=>?_;have hr3:=(hb3.block u2.heap.size (by simp)).trans (bn3 u2 (.cells (rM x.asks x.k0.toNat x.k1.toNat x.k2.toNat x.k3.toNat x.k4.toNat x.k5.toNat x.till x.load) 157 (0,0)));have hc:=nine hr3;have H3:=M0 ((H2.alloc _).below hb3);have hf3:u3.frozen? (a_ u2.heap.size 8)=false:=by simp[World.frozen?,hr3]
 have h02:=H2.size;have hnf: ¬iq B m.Ww u2.heap.size:=fun hf=>bu3 _ (H2.ik hf);clear hb3 HY c0 hL;go_wp2;obtain⟨X,hX⟩:=ex_ (u3.setCell (a_ u2.heap.size 8) (.string pk));have HX:Hid (Mx w0 P X B m.Ww/\X.heap[u2.heap.size]?=some (.cells (rM x.asks x.k0.toNat x.k1.toNat x.k2.toNat x.k3.toNat x.k4.toNat x.k5.toNat x.till pk) 157 (0,0))/\u2.heap.size≠m.bm):=M0 (by
  rw[hX];exact⟨H3.aside _ _ hnf h02,gI u3 8 (.string pk) hr3,fun e=>hnf (bo3 (bo1 e))⟩)
 have HC:Hid (∀u:fV,u.heap[u2.heap.size]?=some (.cells (rM x.asks x.k0.toNat x.k1.toNat x.k2.toNat x.k3.toNat x.k4.toNat x.k5.toNat x.till pk) 157 (0,0))->c_ u u2.heap.size 0 (.int .i64 x.asks)/\c_ u u2.heap.size 1 (.int .u8 x.k0.toNat)/\c_ u u2.heap.size 2 (.int .u8 x.k1.toNat)/\c_ u u2.heap.size 3 (.int .u8 x.k2.toNat)/\c_ u u2.heap.size 4 (.int .u8 x.k3.toNat)/\c_ u u2.heap.size 5 (.int .u8 x.k4.toNat)/\c_ u u2.heap.size 6 (.int .u8 x.k5.toNat)/\c_ u u2.heap.size 7 (.int .i64 x.till)/\c_ u u2.heap.size 8 (.string pk)):=M0 (fun u hu=>nine hu);rw[<-hX];clear hX hc hr3 hf3 H3 hnf;go_region_held3 (fun u=>c_ u B 0 (.map (some m.bm))/\c_ u u2.heap.size 0 (.int .i64 x.asks)/\c_ u u2.heap.size 1 (.int .u8 x.k0.toNat)/\c_ u u2.heap.size 2 (.int .u8 x.k1.toNat)/\c_ u u2.heap.size 3 (.int .u8 x.k2.toNat)/\c_ u u2.heap.size 4 (.int .u8 x.k3.toNat)/\c_ u u2.heap.size 5 (.int .u8 x.k4.toNat)/\c_ u u2.heap.size 6 (.int .u8 x.k5.toNat)/\c_ u u2.heap.size 7 (.int .i64 x.till)/\c_ u u2.heap.size 8 (.string pk)) (first|exact⟨HX.1.c0,HC _ HX.2.1⟩|exact⟨(by have q:=H1.c0;rw[gB HBM]at q;exact q),HC _ HR⟩)
  (first|(go_at_call 134;refine(HQ _ HX.1.drew).mono ?_;rintro ee u ⟨rfl,h1,t1⟩;have H1:=M0 h1;have HR:=M0 (t1.cells HX.2.1 HX.2.2);clear h1 t1))
 clear HX HC HR;go_wp2;go_end0;exact⟨rfl,H1⟩
end Js
namespace Js
open Bs
variable{w0:fV} {P:Nat→Prop} {w w':fV} {B:Nat} {m m' mz:Mc}
theorem o7(h:Mx w0 P w B m)(s t:Int)(Z:Mc->Prop)(h0:m.now<t->Z m)(h1: ¬m.now<t->s=4->∀b,Z (m.fail.at b))(hs:s<=4)
  (HF: ¬m.now<t->s≠4->∀u,Mx w0 P u B m->f_ Vh 92 #[p_ B] u fun ee w'=>ee=.returned (.tuple #[])/\∃mz,Z mz/\Mx w0 P w' B mz):
  f_ Vh 87 #[p_ B,.agg #[.int .i64 s,.int .i64 t],.func (.func 92) #[] #[]] w fun ee w'=>ee=.returned (.tuple #[])/\∃mz,Z mz/\Mx w0 P w' B mz:=by
 by_cases hn:m.now<t
 ·refine on_ (ae1 h s t _ hn) fun u hu=>?_
  exact⟨rfl,m,h0 hn,hu⟩
 have HM:=M0 (h.alloc (.cells #[.int .i64 s,.int .i64 t] 107));have c14:=h.c14;have hlt:=h.lt;clear h
 by_cases h2:s=4
 ·have HFL:=fun(k:Nat)=>M0 (oM (w:=(w.alloc (.cells #[.int .i64 s,.int .i64 t] 107)).drewN k) (HM.like ⟨rfl,rfl,rfl,rfl⟩))
  have HZ:=M0 (h1 hn h2);clear HM HF h0 h1;subst h2;go_enter func87,ntmps87;go_wp2;go_quiet (fail);go_wp2_with fail;refine on_ (gB (HFL _)) ?_;rintro u ⟨b,hu⟩;have HU:=M0 hu;clear hu HFL;go_wp2;go_end0;exact⟨rfl,_,HZ b,HU⟩
 have HFF:=M0 (HF hn h2);have h2b:(s==4)=false:=by simpa using h2
 clear HF h0 h1 h2;go_enter func87,ntmps87;go_wp2;go_quiet (fail);go_wp2_with fail;refine bt1 (HFF _ ?_) ?_
 ·exact HM.like ⟨rfl,rfl,rfl,rfl⟩
 rintro ee u ⟨rfl,mz,hz,hu⟩;have HU:=M0 hu;have HZ:=M0 hz;clear hu hz HFF;go_wp2;go_end0;exact⟨rfl,mz,HZ,HU⟩
theorem Rs(h:Mx w0 P w B m)(hf:m.lK=true)(Z:Mc->Prop)(h0:m.now<m.fu->Z m)(hs:m.fs<=3)
  (HF: ¬m.now<m.fu->∀u,Mx w0 P u B m->f_ Vh 92 #[p_ B] u fun ee w'=>ee=.returned (.tuple #[])/\∃mz,Z mz/\Mx w0 P w' B mz):
  f_ Vh 51 #[p_ B] w fun ee w'=>ee=.returned (.tuple #[])/\∃mz,Z mz/\Mx w0 P w' B mz:=by
 have HI:=W9 h;rw[hf]at HI;have HII:=M0 HI;have HW:Hid (∀u,Mx w0 P u B m->f_ Vh 87 #[p_ B,.agg #[.int .i64 m.fs,.int .i64 m.fu],.func (.func 92) #[] #[]] u fun ee w'=>ee=.returned (.tuple #[])/\∃mz,Z mz/\Mx w0 P w' B mz):=M0 (fun u hu=>o7 hu m.fs m.fu Z h0 (fun _ e=>absurd e (by omega)) (by omega) (fun hn _=>HF hn));have HM:=M0 h;have UC:=h.UC;have c51:=h.c51;clear h HI h0 HF;go_enter func51,ntmps51;go_wp2_with fail;refine HII.mono ?_;rintro ee u ⟨rfl,rfl⟩;go_wp2_with fail;refine on_ (HW _ HM) ?_;rintro u2 ⟨mz,hz,h7⟩;have H7:=M0 h7;have HZ:=M0 hz;clear h7 hz HM HW;go_wp2;go_end0;exact⟨rfl,mz,HZ,H7⟩
theorem aR8(h:Mx w0 P w B m)(hst:m.st=4∨m.st=5∨m.st=6)(Z:Mc->Prop)
  (HF:∀u,Mx w0 P u B m->f_ Vh 90 #[p_ B] u fun ee w'=>ee=.returned (.tuple #[])/\∃mz,Z mz/\Mx w0 P w' B mz):
  f_ Vh 50 #[p_ B] w fun ee w'=>ee=.returned (.tuple #[])/\∃mz,Z mz/\Mx w0 P w' B mz:=by
 have nk:=h.nk;have HT:=M0 (HF _ h);clear h HF
 rcases hst with e|e|e
 all_goals
  rw[e]at nk;clear e;go_enter func50,ntmps50;go_wp2_with fail;refine on_ HT ?_;rintro u2 ⟨mz,hz,h7⟩;have H7:=M0 h7;have HZ:=M0 hz;clear h7 hz HT;go_wp2;go_end0;exact⟨rfl,mz,HZ,H7⟩
end Js
namespace Js
open Bs
open yJ (pF kS)
variable{K:Nat→Nat} {w0:fV} {P:Nat→Prop} {w w':fV} {B:Nat} {m m' mz:Mc} {R:fV→(Nat→Prop)→Prop}
theorem aU6(s:Int)(m:Mc)(w:fV):f_ Vh 265 #[.agg (rH s m.gF m.iB m.iO m.ws m.wu m.gr m.mask m.yz m.FJ m.ends m.old m.iZ m.over m.asked),.int .u32 m.iO] w fun ee w'=>ee=.returned (.bool true)/\gm w.heap.size w w':=by
 by_cases hs:s=6
 ·subst hs
  go_enter func265,ntmps265;go_wp2;go_ret;exact⟨rfl,(bn9 _ _).alloc (bn7 _) _⟩
 have hb:(s==6)=false:=by simpa using hs
 go_enter func265,ntmps265;go_wp2;go_ret;exact⟨by simp,(bn9 _ _).alloc (bn7 _) _⟩
theorem aS1(h:Mx w0 P w B m)(h56:m.st=5∨m.st=6)(rep:Bool)(gF cl ne d0 d1 d2 d3 d4 d5:Int)(sa:Option Addr)(n sc:Nat)(Z:Mc->Prop)
  (HG0:∀u,Mx w0 P u B m->gm w.heap.size w u->f_ Vh 266 #[p_ B,.agg (rD rep gF cl m.iB ne d0 d1 d2 d3 d4 d5 sa n sc m.iO)] u fun ee w'=>ee=.returned (.tuple #[])/\∃mz,Z mz/\Mx w0 P w' B mz):
  f_ Vh 245 #[p_ B,.agg (rD rep gF cl m.iB ne d0 d1 d2 d3 d4 d5 sa n sc m.iO)] w fun ee w'=>ee=.returned (.tuple #[])/\∃mz,Z mz/\Mx w0 P w' B mz:=by
 obtain⟨yo,hyo⟩:=ex_ m.iB;obtain⟨sv,hsv⟩:=ex_ m.iO;have HI0:Hid (∀(s:Int) (u:fV),f_ Vh 265 #[.agg (rH s m.gF m.iB m.iO m.ws m.wu m.gr m.mask m.yz m.FJ m.ends m.old m.iZ m.over m.asked),.int .u32 sv] u fun ee w'=>ee=.returned (.bool true)/\gm u.heap.size u w'):=M0 (fun s u=>by rw[hsv];exact aU6 s m u);have hyb:(yo==m.iB)=true:=by simpa using hyo
 rw[<-hyo,<-hsv]at HG0 ⊢;have HG:=M0 HG0;clear HG0;have hm:=h.alloc (.cells (rD rep gF cl yo ne d0 d1 d2 d3 d4 d5 sa n sc sv) 269);obtain⟨v,hv⟩:=ex_ (w.alloc (.cells (rD rep gF cl yo ne d0 d1 d2 d3 d4 d5 sa n sc sv) 269));have hrow:v.heap[w.heap.size]?=some (.cells (rD rep gF cl yo ne d0 d1 d2 d3 d4 d5 sa n sc sv) 269 (0,0)):=by rw[hv];exact bn3 w (.cells (rD rep gF cl yo ne d0 d1 d2 d3 d4 d5 sa n sc sv) 269)
 have HBV:Hid (gm w.heap.size w v):=M0 (by rw[hv];exact(bn9 _ _).alloc (bn7 _) _);have nk:=h.nk;have hB:=h.lt;have hne:B≠w.heap.size:=bo5 hB;rw[<-hv]at hm;have HM:=M0 hm;have HROW:=M0 hrow;have HKS:Hid (∀u,gm v.heap.size v u->(c_ u B 25 (.int .i64 m.st)/\c_ u B 26 (.int .u32 m.gF)/\c_ u B 27 (.int .u32 m.iB)/\c_ u B 28 (.int .u32 m.iO)/\c_ u B 29 (.int .i64 m.ws)/\c_ u B 30 (.int .i64 m.wu)/\c_ u B 31 (.int .i64 m.gr)/\c_ u B 32 (.int .u32 m.mask)/\c_ u B 33 (.int .u32 m.yz)/\c_ u B 34 (.int .u32 m.FJ)/\c_ u B 35 (.bool m.ends)/\c_ u B 36 (.int .u32 m.old)/\c_ u B 37 (.int .u32 m.iZ)/\c_ u B 38 (.int .u32 m.over)/\c_ u B 39 (.int .i64 m.asked))/\u.cell? (a_ w.heap.size 3)=some (.int .u32 yo)/\u.cell? (a_ w.heap.size 12)=some (.int .u32 sv)):=M0 (fun u hb=>by
  have hu:=hm.below hb
  have q:=Af ((hb.block w.heap.size (bo2 hrow)).trans hrow)
  exact⟨⟨hu.nk,hu.sw,hu.uF,hu.c28,hu.aT1,hu.yE,hu.c31,hu.c32,hu.qd,hu.c34,hu.Qu,hu.Qw,hu.c37,hu.aX6,hu.TF⟩,q.1,q.2⟩)
 have HI:Hid (∀s:Int,f_ Vh 265 #[.agg (rH s m.gF m.iB m.iO m.ws m.wu m.gr m.mask m.yz m.FJ m.ends m.old m.iZ m.over m.asked),.int .u32 sv] v.drew fun ee w'=>∃b,ee=.returned (.bool b)/\Hid (b=true)/\gm v.drew.heap.size v.drew w'):=M0 (fun s=>(HI0 s v.drew).mono (by
  rintro ee u ⟨e,q⟩
  exact⟨true,e,M0 rfl,q⟩))
 have HV:=M0 hv;clear h hv hrow hm hyo hsv HI0
 rcases h56 with e|e
 all_goals
  rw[e]at nk HKS;clear e;go_enter func245,ntmps245;go_wp2;rw[<-gB HV];first
   |(go_region_held3 (fun u=>(c_ u B 25 (.int .i64 5)/\c_ u B 26 (.int .u32 m.gF)/\c_ u B 27 (.int .u32 m.iB)/\c_ u B 28 (.int .u32 m.iO)/\c_ u B 29 (.int .i64 m.ws)/\c_ u B 30 (.int .i64 m.wu)/\c_ u B 31 (.int .i64 m.gr)/\c_ u B 32 (.int .u32 m.mask)/\c_ u B 33 (.int .u32 m.yz)/\c_ u B 34 (.int .u32 m.FJ)/\c_ u B 35 (.bool m.ends)/\c_ u B 36 (.int .u32 m.old)/\c_ u B 37 (.int .u32 m.iZ)/\c_ u B 38 (.int .u32 m.over)/\c_ u B 39 (.int .i64 m.asked))/\u.cell? (a_ w.heap.size 3)=some (.int .u32 yo)/\u.cell? (a_ w.heap.size 12)=some (.int .u32 sv)) (first|exact HKS _ ((bn9 _ _).drew)|exact HKS _ HB1)
      (first|(go_at_call 265;refine(HI _).mono ?_;rintro ee u ⟨bb,rfl,HBB,hb⟩;have HB1:=M0 (((bn9 v.heap.size v).drew).trans hb);clear hb)))
   |(go_region_held3 (fun u=>(c_ u B 25 (.int .i64 6)/\c_ u B 26 (.int .u32 m.gF)/\c_ u B 27 (.int .u32 m.iB)/\c_ u B 28 (.int .u32 m.iO)/\c_ u B 29 (.int .i64 m.ws)/\c_ u B 30 (.int .i64 m.wu)/\c_ u B 31 (.int .i64 m.gr)/\c_ u B 32 (.int .u32 m.mask)/\c_ u B 33 (.int .u32 m.yz)/\c_ u B 34 (.int .u32 m.FJ)/\c_ u B 35 (.bool m.ends)/\c_ u B 36 (.int .u32 m.old)/\c_ u B 37 (.int .u32 m.iZ)/\c_ u B 38 (.int .u32 m.over)/\c_ u B 39 (.int .i64 m.asked))/\u.cell? (a_ w.heap.size 3)=some (.int .u32 yo)/\u.cell? (a_ w.heap.size 12)=some (.int .u32 sv)) (first|exact HKS _ ((bn9 _ _).drew)|exact HKS _ HB1)
      (first|(go_at_call 265;refine(HI _).mono ?_;rintro ee u ⟨bb,rfl,HBB,hb⟩;have HB1:=M0 (((bn9 v.heap.size v).drew).trans hb);clear hb)))
  have HMu:=M0 (HM.below HB1);have HRu:=M0 ((HB1.block w.heap.size (bo2 HROW)).trans HROW);have HGG:=M0 (HG _ HMu (HBV.trans (HB1.mono HBV.size)));clear HM HKS HI HG;obtain rfl:bb=true:=gB HBB;go_wp2_with (refine bt5 rfl 269 (.tmp 3) rfl w.heap.size rfl 269 _ (0,0) _ HRu bA6 rfl (by kernel_rfl) ?_);refine on_ HGG ?_;rintro u9 ⟨mz,hz,hu⟩;have HU:=M0 hu;have HZ:=M0 hz;clear hu hz HGG;go_wp2;go_end0;exact⟨rfl,mz,HZ,HU⟩
theorem aV3(h:Mx w0 P w B m)(hr:R w0 P)(hB:Base R B)(ho:m.Ok)(h56:m.st=5∨m.st=6)(a1 a2 a3 a4 a5 a6:UInt8)(id fr ta ne:Int)(a b c d a' b' c' d':UInt8)(hid:0<=id/\id<=65535)(hf:0<=fr/\fr<=4294967295)(ht:0<=ta/\ta<=4294967295)(hs:vK a b c d=m.iO)(hn:0<=ne/\ne<=4294967295)(t:Int)(htv:pF (Ws 5 [a,b,c,d] [a',b',c',d'])=some t):
  f_ Vh 54 #[p_ B,.string (og.ni [m.k0,m.k1,m.k2,m.k3,m.k4,m.k5,a1,a2,a3,a4,a5,a6] 2048 (Ip.Db id 9 17 fr ta (Ud.sH 67 68 fr ta (Dh.nH true m.gF 0 m.iB ne [m.k0,m.k1,m.k2,m.k3,m.k4,m.k5] (Ws 5 [a,b,c,d] [a',b',c',d'])))))] w fun ee w'=>ee=.returned (.tuple #[])/\∃mz,mz=m.granted m.iO (kS (Ws 5 [a,b,c,d] [a',b',c',d']) ne m.iO t)/\Mx w0 P w' B mz:=
 IQ h hr hB a1 a2 a3 a4 a5 a6 id 67 fr ta _ hid (by decide) hf ht (ad6 _ _ _ _ _ _ _) _ (ag8 5 a b c d a' b' c' d' m.iB ne ho.gF ho.iB hn _ (bo3 rfl) (fun sa sc w0 P u hu hA=>by
  rw[hs];refine aS1 hu h56 true m.gF 0 ne _ _ _ _ _ _ sa 5 sc _ (fun u2 hu2 hb2=> ?_);refine on_ (dE hu2 ho.iB true m.gF 0 m.iB ne _ _ _ _ _ _ sa sc (Ws 5 [a,b,c,d] [a',b',c',d']) m.iO (hA.below hb2 (bn7 _)) (by simp[Ws,Dh.heavy]) (by show 4<=maxLen;decide) t htv) fun w' hm=>?_;exact⟨rfl,_,rfl,hm⟩))
end Js
namespace Ho
open Bs Js
variable{w0 w w':fV} {P:Nat→Prop} {Q B H G:Nat} {m m':Mc} {h h':Host} {K:Nat→Nat} {s:List UInt8} {wn:Nat} {img:ByteArray} {n t g:Nat} {j:Option Nat} {p:Int}
def vw(m:Mc):Mc:={m with bm:=0,cd:=.map [],cf:=0,gf:=0,gq:=[],lost:=0,id:=0}
theorem dV(m:Mc)(f:ByteArray):vw (m.sent f)=vw m:=by unfold Mc.sent;split<;>rfl
theorem Cf.same(c:Cf K s wn m)(e:vw m'=vw m)(o:m'.Ok):Cf K s wn m':=
 ⟨o,(by5 Mc.k0 e).trans c.k0,(by5 Mc.k1 e).trans c.k1,(by5 Mc.k2 e).trans c.k2,(by5 Mc.k3 e).trans c.k3,(by5 Mc.k4 e).trans c.k4,(by5 Mc.k5 e).trans c.k5,(by5 Mc.name e).trans c.name,(by5 Mc.cap e).trans c.cap,by rw[show m'.gQ=m.gQ from(by5 Mc.gQ e:)];exact c.gQ,(by5 Mc.blk e).trans c.blk,(by5 Mc.win e).trans c.win,(by5 Mc.rx e).trans c.rx,(by5 Mc.tx e).trans c.tx,(by5 Mc.cq e).trans c.cq⟩
theorem aU1(c:Cf K s wn m)(f:ByteArray):vw (nx m f)=vw m:=by
 rw[Y9 c.cq (by rw[c.rx];decide)];rfl
def Fe(s:List UInt8)(j:Option Nat)(p:Int)(m:Mc):Prop:=match j with
 |none=>m.phase=1/\m.TE=1/\m.since=0/\m.ql=[]/\m.sF=1025/\m.sT=69/\m.sL=qw 1
 |some j=>m.phase=2/\m.TE=((j+1:Nat):Int)/\m.since=0/\m.ql=s.take (8*j)/\m.sF=1025/\m.sT=p/\m.sL=XM j/\m.Wl=p/\m.Be=8/\m.Od=1/\j<=375
theorem Fe.same(f:Fe s j p m)(e:vw m'=vw m):Fe s j p m':=by
 have e1:m'.phase=m.phase:=(by5 Mc.phase e:);have e2:m'.TE=m.TE:=(by5 Mc.TE e:);have e3:m'.since=m.since:=(by5 Mc.since e:);have e4:m'.ql=m.ql:=(by5 Mc.ql e:);have e5:m'.sF=m.sF:=(by5 Mc.sF e:);have e6:m'.sT=m.sT:=(by5 Mc.sT e:);have e7:m'.sL=m.sL:=(by5 Mc.sL e:);have e8:m'.Wl=m.Wl:=(by5 Mc.Wl e:);have e9:m'.Be=m.Be:=(by5 Mc.Be e:);have e10:m'.Od=m.Od:=(by5 Mc.Od e:)
 cases j with
 |none=>
  obtain⟨f1,f2,f3,f4,f5,f6,f7⟩:=f;exact⟨e1.trans f1,e2.trans f2,e3.trans f3,e4.trans f4,e5.trans f5,e6.trans f6,e7.trans f7⟩
 |some j=>
  obtain⟨f1,f2,f3,f4,f5,f6,f7,f8,f9,f10,f11⟩:=f;exact⟨e1.trans f1,e2.trans f2,e3.trans f3,e4.trans f4,e5.trans f5,e6.trans f6,e7.trans f7,e8.trans f8,e9.trans f9,e10.trans f10,f11⟩
structure Rn (K:Nat->Nat) (s:List UInt8) (n t g:Nat) (j:Option Nat) (p:Int) (m:Mc):Prop where
 cf:Cf K s 1 m
 st:m.st=4∨m.st=5/\g+n/2<=t∨m.st=6/\g+n/8*7<=t
 iB:m.iB=167772215
 iO:m.iO=167772161
 mask:m.mask=4294967040
 yz:m.yz=167772161
 FJ:m.FJ=167772161
 port:m.port=1025
 now:m.now=t
 draw:m.draw=1
 ends:m.ends=true
 old:m.old=((n/2:Nat):Int)
 iZ:m.iZ=((n/8*7:Nat):Int)
 over:m.over=n
 gr:m.gr=g
 le:g<=t
 fe:Fe s j p m
theorem Rn.same(r:Rn K s n t g j p m)(e:vw m'=vw m)(o:m'.Ok):Rn K s n t g j p m':=
 ⟨r.cf.same e o,by rw[show m'.st=m.st from(by5 Mc.st e:)];exact r.st,(by5 Mc.iB e).trans r.iB,(by5 Mc.iO e).trans r.iO,(by5 Mc.mask e).trans r.mask,(by5 Mc.yz e).trans r.yz,(by5 Mc.FJ e).trans r.FJ,(by5 Mc.port e).trans r.port,(by5 Mc.now e).trans r.now,(by5 Mc.draw e).trans r.draw,(by5 Mc.ends e).trans r.ends,(by5 Mc.old e).trans r.old,(by5 Mc.iZ e).trans r.iZ,(by5 Mc.over e).trans r.over,(by5 Mc.gr e).trans r.gr,r.le,r.fe.same e⟩
theorem Rn.addr(r:Rn K s n t g j p m):m.addr=167772215:=by
 unfold Mc.addr;rw[bo4 (by rcases r.st with e|⟨e,_⟩|⟨e,_⟩<;>rw[e]<;>decide),r.iB]
theorem Rn.bb7(r:Rn K s n t g j p m):m.hop 167772161=167772161:=by
 unfold Mc.hop;rw[r.addr,r.mask];have hb:(bits BinOp.and .u32 167772161 4294967040==bits BinOp.and .u32 167772215 4294967040)=true:=by decide
 rw[hb];rfl
theorem Rn.lK(r:Rn K s n t g j p m):m.lK=true/\m.ended=false:=by
 have f:=r.fe
 cases j with
 |none=>
  unfold Mc.lK Mc.ended;rw[f.1];exact⟨rfl,rfl⟩
 |some j=>
  unfold Mc.lK Mc.ended;rw[f.1];exact⟨rfl,rfl⟩
def KX(x:Nb):Prop:=x.asks=0/\x.k0=2/\x.k1=0/\x.k2=0/\x.k3=0/\x.k4=0/\x.k5=7
def Kn(m:Mc):Prop:=∃x:Nb,m.cd=ak x/\KX x
def Ck(m:Mc):Prop:=m.cd=.map []∨Kn m
def Cw(L:ByteArray)(m:Mc):Prop:=∃x:Nb,m.cd=ak x/\x.asks=1/\x.load=L
def dhB(gF:Int):ByteArray:=Dh.nH false gF 167772215 0 0 [2,0,0,0,0,42] (kY 3 [])
def Sb(i f t:Int)(L:ByteArray):ByteArray:=Ip.Db i 64 17 167772215 167772161 (Ud.sH f t 167772215 167772161 L)
def dBF(i gF:Int):ByteArray:=og.ni [255,255,255,255,255,255,2,0,0,0,0,42] 2048 (Ip.Db i 64 17 167772215 4294967295 (Ud.sH 68 67 167772215 4294967295 (dhB gF)))
def bQ(i:Int):Prop:=0<=i/\i<=65535
def DOk(n t g:Nat)(m:Mc)(d:ByteArray):Prop:=(m.st=5∨m.st=6)/\((∃i,bQ i/\d=rZ i 68 67 (dhB m.gF)/\t<g+n/8*7/\g+n/2<=t)∨∃i,bQ i/\d=dBF i m.gF/\g+n/8*7<=t)
theorem DOk.same{d:ByteArray}(k:DOk n t g m d)(e:vw m'=vw m):DOk n t g m' d:=by
 have e1:m'.st=m.st:=(by5 Mc.st e:);have e2:m'.gF=m.gF:=(by5 Mc.gF e:);unfold DOk at k ⊢;rw[e1,e2];exact k
def tF(i:Int)(m:Mc):ByteArray:=rZ i m.sF m.sT m.sL
theorem aZ9(i:Int)(e:vw m'=vw m):tF i m'=tF i m:=by
 unfold tF;rw[show m'.sF=m.sF from(by5 Mc.sF e:),show m'.sT=m.sT from(by5 Mc.sT e:),show m'.sL=m.sL from(by5 Mc.sL e:)]
inductive Sh (n t g:Nat) (m:Mc):List ByteArray->Nat->Prop where
 |no:Ck m->Sh n t g m [] 0
 |t (i:Int):Kn m->bQ i->Sh n t g m [tF i m] 1
 |d (x:ByteArray):Ck m->DOk n t g m x->Sh n t g m [x] 0
 |dt (x:ByteArray) (i:Int):Kn m->DOk n t g m x->bQ i->Sh n t g m [x,tF i m] 1
 |at(i:Int):Cw (Sb i m.sF m.sT m.sL) m->bQ i->Sh n t g m [az1] 1
 |dat (x:ByteArray) (i:Int):Cw (Sb i m.sF m.sT m.sL) m->DOk n t g m x->bQ i->Sh n t g m [x,az1] 1
 |ad (i:Int):Cw (Sb i 68 67 (dhB m.gF)) m->bQ i->m.st=5∨m.st=6->t<g+n/8*7->g+n/2<=t->Sh n t g m [az1] 0
theorem aV8(i f t:Int)(L:ByteArray):rZ i f t L=og.ni ([2,0,0,0,0,7]++ [2,0,0,0,0,42]) 2048 (Sb i f t L):=rfl
theorem aS9(o:m.Ok)(a:Int)(x:Nb):(m.keep a x).Ok:=⟨o.1,o.2,o.3,o.4,o.5,o.6,o.7,o.8,o.9,o.10,o.11,o.12,o.13,o.14,o.15,o.16⟩
def ToS(m:Mc)(f t':Int)(L:ByteArray)(mz:Mc):Prop:=vw mz=vw m/\mz.Ok/\(Kn m/\mz.cd=m.cd/\mz.gq=m.gq++ [rZ m.id f t' L]∨m.cd=.map []/\Cw (Sb m.id f t' L) mz/\mz.gq=m.gq++ [az1]∨(∃L',Cw L' m)/\Cw (Sb m.id f t' L) mz/\mz.gq=m.gq)
theorem ba1(hu:Mx w0 P w B m)(r:Rn K s n t g j p m)(f t':Int)(L:ByteArray)(hF:0<=f/\f<=65535)(hT:0<=t'/\t'<=65535)(hl:L.size<=262144)(hg:m.gq.length<16)(hc:Ck m∨∃L',Cw L' m):
  f_ Vh 143 #[p_ B,.int .u32 167772161,.agg (rI f t' L)] w fun ee w'=>ee=.returned (.tuple #[])/\∃mz,ToS m f t' L mz/\Mx w0 P w' B mz:=by
 have o:=r.cf.ok;have hop:=r.bb7;have hpk:m.lD 167772161 f t' L=Sb m.id f t' L:=by
  unfold Mc.lD Sb;rw[r.addr]
 have hcard:=r.cf.card
 rcases hc with(e|⟨x,e,hx⟩)|⟨L',x,e,e1,e2⟩
 ·refine on_ (ar9 hu o 167772161 f t' L (by decide) hF hT hl (by rw[hop,e];exact av4 _ (by decide)) (by rw[hop,e];rfl)) fun u hm=>?_
  have e3:m.al7 167772161 f t' L=(m.Ww.keep 167772161 (({bC with load:=Sb m.id f t' L}:Nb).more m.now)).sent az1:=by
   unfold Mc.al7 Mc.aK0 Mc.aH2 Mc.send Mc.ah5;rw[hop,hpk];show Mc.sent _ (og.ni ([255,255,255,255,255,255]++m.card) 2054 (WM.vE 1 m.card m.addr [0,0,0,0,0,0] 167772161))=_;rw[hcard,r.addr];rfl
  rw[e3]at hm;refine⟨rfl,_,⟨by rw[dV];rfl,(aS9 o.Ww _ _).sent _,bo3 (bo1 ⟨e,⟨({bC with load:=Sb m.id f t' L}:Nb).more m.now,?_,(by show wrap64 (0+1)=1;rw[BL _ (by decide)];rfl),rfl⟩,?_⟩)⟩,hm⟩
  ·rw[aa9]
   show m.cd.put _ _=_;rw[e];rfl
  rw[ah6 _ _ (by show m.gq.length≠m.tx;rw[r.cf.tx];omega)];rfl
 ·refine on_ (ai9 hu o 167772161 f t' L (by decide) hF hT hl x (by rw[hop];decide) (by rw[hop,e];rfl) (by rw[hop,e];rfl) hx.1) fun u hm=>?_
  have e3:m.Y6 167772161 f t' L x=m.Ww.sent (rZ m.id f t' L):=by
   unfold Mc.Y6 Mc.send;rw[hpk,show m.Ww.card=m.card from rfl,hcard,hx.2.1,hx.2.2.1,hx.2.2.2.1,hx.2.2.2.2.1,hx.2.2.2.2.2.1,hx.2.2.2.2.2.2,<-aV8]
  rw[e3]at hm;refine⟨rfl,_,⟨by rw[dV];rfl,o.Ww.sent _,bo1 ⟨⟨x,e,hx⟩,?_,?_⟩⟩,hm⟩
  ·rw[aa9];rfl
  rw[ah6 _ _ (by show m.gq.length≠m.tx;rw[r.cf.tx];omega)];rfl
 refine on_ (aX5 hu o 167772161 f t' L (by decide) hF hT hl x (by rw[hop,e];exact aA8 _ x rfl) (by rw[hop,e];rfl) (by rw[hop,e];rfl) (by rw[e1];decide)) fun u hm=>?_;have e3:m.Ty 167772161 f t' L x=m.Ww.keep 167772161 {x with load:=Sb m.id f t' L}:=by
  unfold Mc.Ty;rw[hop,hpk]
 rw[e3]at hm;refine⟨rfl,m.Ww.keep 167772161 {x with load:=Sb m.id f t' L},⟨rfl,aS9 o.Ww _ _,bo3 (bo3 ⟨⟨L',x,e,e1,e2⟩,⟨{x with load:=Sb m.id f t' L},?_,e1,rfl⟩,rfl⟩)⟩,hm⟩;show m.cd.put _ _=_;rw[e];rfl
theorem Rn.WS(r:Rn K s n t g j p m)(hf:m.fs<=3):Rn K s n t g j p m.WS:=by
 have o:=r.cf.ok;have c:=r.cf;have f:=o.fs;have o2:m.WS.Ok:=⟨o.1,o.2,o.3,o.4,o.5,o.6,o.7,o.8,o.9,o.10,o.11,o.12,⟨by show 0<=m.fs+1;omega,by show m.fs+1<=4;omega⟩,o.14,o.15,o.16⟩;exact⟨⟨o2,c.k0,c.k1,c.k2,c.k3,c.k4,c.k5,c.name,c.cap,c.gQ,c.blk,c.win,c.rx,c.tx,c.cq⟩,r.st,r.iB,r.iO,r.mask,r.yz,r.FJ,r.port,r.now,r.draw,r.ends,r.old,r.iZ,r.over,r.gr,r.le,r.fe⟩
theorem Cw.cd{L:ByteArray}(k:Cw L m)(e:m'.cd=m.cd):Cw L m':=by
 obtain⟨x,e1,e2,e3⟩:=k;exact⟨x,e.trans e1,e2,e3⟩
theorem Kn.cd(k:Kn m)(e:m'.cd=m.cd):Kn m':=by
 obtain⟨x,e1,e2⟩:=k;exact⟨x,e.trans e1,e2⟩
theorem Ck.cd(k:Ck m)(e:m'.cd=m.cd):Ck m':=k.imp (fun q=>e.trans q) (fun q=>q.cd e)
theorem aY7(hu:Mx w0 P w B m)(r:Rn K s n t g j p m)(hf:m.fs<=3)(sh:Sh n t g m m.gq 0):
  f_ Vh 92 #[p_ B] w fun ee w'=>ee=.returned (.tuple #[])/\∃mz,(Rn K s n t g j p mz/\mz.fs=m.fs+1/\mz.fu=m.WS.fu/\Sh n t g mz mz.gq 1)/\Mx w0 P w' B mz:=by
 have hid:=r.cf.ok.id;have hc:(Ck m/\(m.gq=[]∨∃x,m.gq=[x]/\DOk n t g m x))∨((∃L',Cw L' m)/\m.gq=[az1]):=by
  generalize m.gq=q at sh
  cases sh with
  |no k=>exact bo1 ⟨k,bo1 rfl⟩
  |d x k k2=>exact bo1 ⟨k,bo3 ⟨x,rfl,k2⟩⟩
  |ad i k=>exact bo3 ⟨⟨_,k⟩,rfl⟩
 have hlen:m.gq.length<16:=by
  rcases hc with⟨_,e|⟨x,e,_⟩⟩|⟨_,e⟩<;>rw[e]<;>simp
 refine(eQ hu r.cf.ok hf (fun mz=>ToS m.WS m.sF m.sT m.sL mz) ?_ (fun u hu2=> ?_)).mono ?_
 ·rintro mz ⟨e,_⟩
  exact⟨(by5 Mc.sF e:),(by5 Mc.sT e:),(by5 Mc.sL e:)⟩
 ·rw[r.FJ]
  refine ba1 hu2 (r.WS hf) m.sF m.sT m.sL r.cf.ok.sF r.cf.ok.sT r.cf.ok.sL hlen ?_
  rcases hc with⟨k,_⟩|⟨⟨L',k⟩,_⟩
  ·exact bo1 (k.cd rfl)
  exact bo3 ⟨L',k.cd rfl⟩
 rintro ee u ⟨rfl,mz,⟨e,o,z⟩,hm⟩;refine⟨rfl,mz,⟨(r.WS hf).same e o,(by5 Mc.fs e:),(by5 Mc.fu e:),?_⟩,hm⟩;have eF:mz.sF=m.sF:=(by5 Mc.sF e:);have eT:mz.sT=m.sT:=(by5 Mc.sT e:);have eL:mz.sL=m.sL:=(by5 Mc.sL e:);have e9:vw m.WS=vw {m with fs:=m.WS.fs,fu:=m.WS.fu}:=rfl;have eD:∀x,DOk n t g m x->DOk n t g mz x:=fun x k=>by
  have e1:mz.st=m.st:=(by5 Mc.st e:);have e2:mz.gF=m.gF:=(by5 Mc.gF e:);unfold DOk at k ⊢;rw[e1,e2];exact k
 have etF:rZ m.id m.sF m.sT m.sL=tF m.id mz:=by unfold tF;rw[eF,eT,eL]
 rcases z with⟨k,e1,e2⟩|⟨k,k1,e2⟩|⟨⟨L',k⟩,k1,e2⟩
 ·have e3:mz.gq=m.gq++ [tF m.id mz]:=by rw[e2,<-etF];rfl
  have k2:Kn mz:=k.cd e1
  rcases hc with⟨_,q|⟨x,q,hx⟩⟩|⟨⟨L',x,q1,q2,q3⟩,_⟩
  ·rw[e3,q]
   exact .t m.id k2 hid
  ·rw[e3,q]
   exact .dt x m.id k2 (eD x hx) hid
  obtain⟨y,y1,y2⟩:=k;exfalso
  have:ak x=ak y:=q1.symm.trans y1;have hh:=by5 (fun D:DataW Unit=>D.atKey (.int .u32 167772161) bC.d) this;have hd:x.d=y.d:=hh;unfold Nb.d at hd;injection hd with hd
  injection hd with hd
  injection hd with hd
  injection hd with _ hd
  rw[q2,y2.1]at hd
  cases hd
 ·have k2:Cw (Sb m.id mz.sF mz.sT mz.sL) mz:=by rw[eF,eT,eL];exact k1
  have e3:mz.gq=m.gq++ [az1]:=e2
  rcases hc with⟨_,q|⟨x,q,hx⟩⟩|⟨⟨L',x,q1,q2,q3⟩,_⟩
  ·rw[e3,q]
   exact .at m.id k2 hid
  ·rw[e3,q]
   exact .dat x m.id k2 (eD x hx) hid
  have k':m.cd=.map []:=k;rw[k']at q1
  cases q1
 have k2:Cw (Sb m.id mz.sF mz.sT mz.sL) mz:=by rw[eF,eT,eL];exact k1
 have e3:mz.gq=m.gq:=e2
 rcases hc with⟨q1,_⟩|⟨_,q⟩
 ·obtain⟨x,x1,x2,x3⟩:=k
  have x1':m.cd=ak x:=x1
  rcases q1 with q1|⟨y,y1,y2⟩
  ·rw[x1']at q1
   cases q1
  exfalso
  have:ak x=ak y:=x1'.symm.trans y1;have hh:=by5 (fun D:DataW Unit=>D.atKey (.int .u32 167772161) bC.d) this;have hd:x.d=y.d:=hh;unfold Nb.d at hd;injection hd with hd
  injection hd with hd
  injection hd with hd
  injection hd with _ hd
  rw[x2,y2.1]at hd
  cases hd
 rw[e3,q];exact .at m.id k2 hid
theorem Rn.bD(r:Rn K s n t g j p m)(x:Int)(hx:x=5/\g+n/2<=t∨x=6/\g+n/8*7<=t):Rn K s n t g j p (m.bD x):=by
 have o:=r.cf.ok;have c:=r.cf;have o2:(m.bD x).Ok:=⟨o.1,o.2,o.3,o.4,o.5,o.6,o.7,o.8,o.9,o.10,o.11,o.12,o.13,o.14,o.15,o.16⟩;exact⟨⟨o2,c.k0,c.k1,c.k2,c.k3,c.k4,c.k5,c.name,c.cap,c.gQ,c.blk,c.win,c.rx,c.tx,c.cq⟩,bo3 hx,r.iB,r.iO,r.mask,r.yz,r.FJ,r.port,r.now,r.draw,r.ends,r.old,r.iZ,r.over,r.gr,r.le,r.fe⟩
theorem Rn.qz(r:Rn K s n t g j p m):m.qz 3 []=dhB m.gF:=by
 unfold Mc.qz dhB;rw[r.addr,r.cf.card]
theorem aZ0(m:Mc)(kb:UInt8)(os:Dh.gU):(m.qz kb os).size<=262144:=by
 unfold Mc.qz;exact bo6 (ad6 _ _ _ _ _ _ _) (by decide)
theorem ba3(hu:Mx w0 P w B m)(r:Rn K s n t g j p m)(hg:m.gq=[])(hc:Ck m)(hn:n<=3000)(ht:t<=20000):
  f_ Vh 90 #[p_ B] w fun ee w'=>ee=.returned (.tuple #[])/\∃mz,((g+n<=t/\∃b,mz=m.drop.at b)∨(t<g+n/\Rn K s n t g j p mz/\mz.fs=m.fs/\mz.fu=m.fu/\Sh n t g mz mz.gq 0))/\Mx w0 P w' B mz:=by
 have e0:=r.now;have e1:=r.gr;have e2:=r.old;have e3:=r.iZ;have e4:=r.over;have hle:=r.le;have hst:m.st=4∨m.st=5∨m.st=6:=by
  rcases r.st with e|⟨e,_⟩|⟨e,_⟩
  ·exact bo1 e
  ·exact bo3 (bo1 e)
  exact bo3 (bo3 e)
 have hst2:=r.st;have ha:wrap64 (m.now-m.gr)%4294967296=(t:Int)-g:=by
  rw[e0,e1,BL _ (by omega)];omega
 refine aW5 hu r.ends hst _ ((t:Int)-g) _ ha rfl (fun h1 _ _ _=>bo3 ⟨by omega,r,rfl,rfl,by rw[hg];exact .no hc⟩) (fun h1 u hu2=> ?_) (fun x u h1 hx hu2=> ?_)
 ·refine on_ (tO hu2) ?_
  rintro u2 ⟨b,hm⟩;exact⟨rfl,_,bo1 ⟨by omega,b,rfl⟩,hm⟩
 have hx2:x=5/\(t<g+n/8*7/\g+n/2<=t)∨x=6/\g+n/8*7<=t:=by omega
 have hx3:x=5/\g+n/2<=t∨x=6/\g+n/8*7<=t:=hx2.imp (fun q=>⟨q.1,q.2.2⟩) id;have r2:=r.bD x hx3;have hlt:t<g+n:=by omega
 refine aZ6 hu2 x (by omega) r2.cf.ok _ (fun e6=> ?_) (fun e5 u3 hu3=> ?_)
 ·have hv:g+n/8*7<=t:=by omega
  have eS:(m.bD x).say 3 []=(m.bD x).Ww.sent (dBF m.id m.gF):=by
   unfold Mc.say Mc.Cz Mc.send Mc.lD;rw[r2.qz,r2.addr,show(m.bD x).Ww.card=(m.bD x).card from rfl,r2.cf.card];rfl
  have eg:((m.bD x).Ww.sent (dBF m.id m.gF)).gq=[dBF m.id m.gF]:=by
   rw[ah6 _ _ (by show m.gq.length≠m.tx;rw[hg,r.cf.tx];decide)];show m.gq++_=_;rw[hg];rfl
  have ev:vw ((m.bD x).Ww.sent (dBF m.id m.gF))=vw (m.bD x):=by rw[dV];rfl
  rw[eS];refine bo3 ⟨hlt,r2.same ev (r2.cf.ok.Ww.sent _),(by5 Mc.fs ev:),(by5 Mc.fu ev:),?_⟩;rw[eg];refine .d _ (hc.cd (by rw[aa9];rfl)) ⟨bo3 ?_,bo3 ⟨m.id,r.cf.ok.id,?_,hv⟩⟩
  ·rw[ab1];exact e6
  rw[aB0];rfl
 rw[r.iO,r2.qz];have hl:(dhB (m.bD x).gF).size<=262144:=by rw[<-r2.qz];exact aZ0 _ _ _
 refine on_ (ba1 hu3 r2 68 67 (dhB (m.bD x).gF) (by decide) (by decide) hl (by show m.gq.length<16;rw[hg];decide) (bo1 (hc.cd rfl))) ?_;rintro u4 ⟨mz,⟨ev,o,z⟩,hm⟩;have hst3:mz.st=5:=(by5 Mc.st ev).trans e5;have hxid:mz.gF=m.gF:=(by5 Mc.gF ev:);have h5:t<g+n/8*7/\g+n/2<=t:=by omega
 refine⟨rfl,mz,⟨bo3 ⟨hlt,r2.same ev o,(by5 Mc.fs ev:),(by5 Mc.fu ev:),?_⟩,(by5 Mc.iO ev).trans r.iO⟩,hm⟩
 rcases z with⟨k,z1,z2⟩|⟨k,z1,z2⟩|⟨⟨L',y,k,k1,k2⟩,z1,z2⟩
 ·have z3:mz.gq=[rZ m.id 68 67 (dhB m.gF)]:=by rw[z2];show m.gq++_=_;rw[hg];rfl
  rw[z3];exact .d _ (bo3 (k.cd z1)) ⟨bo1 hst3,bo1 ⟨m.id,r.cf.ok.id,by rw[hxid],h5.1,h5.2⟩⟩
 ·have z3:mz.gq=[az1]:=by rw[z2];show m.gq++_=_;rw[hg];rfl
  rw[z3];exact .ad m.id (by rw[hxid];exact z1) r.cf.ok.id (bo1 hst3) h5.1 h5.2
 exfalso
 have k':m.cd=ak y:=k
 rcases hc with q|⟨x',q,q2⟩
 ·rw[k']at q
  cases q
 have hh:=by5 (fun D:DataW Unit=>D.atKey (.int .u32 167772161) bC.d) (k'.symm.trans q);have hd:y.d=x'.d:=hh;unfold Nb.d at hd;injection hd with hd
 injection hd with hd
 injection hd with hd
 injection hd with _ hd
 rw[k1,q2.1]at hd
 cases hd
structure Of (K:Nat->Nat) (s:List UInt8) (t:Nat) (m:Mc):Prop where
 cf:Cf K s 1 m
 st:m.st=0
 gq:m.gq=[]
 cd:m.cd=.map []
 ph:m.phase=0
 now:m.now=t
 img:m.ql=[]
theorem Rn.drop(r:Rn K s n t g j p m)(hg:m.gq=[])(b:Nat):Of K s t (m.drop.at b):=by
 have c:=r.cf;have o:=c.ok;have z0:∀k:Int,0<=k->0<=(0:Int)/\(0:Int)<=k:=fun k h=>⟨ah _,h⟩;exact⟨⟨⟨o.1,o.2,z0 _ (by decide),z0 _ (by decide),z0 _ (by decide),z0 _ (by decide),z0 _ (by decide),z0 _ (by decide),z0 _ (by decide),z0 _ (by decide),z0 _ (by decide),z0 _ (by decide),z0 _ (by decide),z0 _ (by decide),z0 _ (by decide),by show(⟨#[]⟩:ByteArray).size<=262144;decide⟩,c.k0,c.k1,c.k2,c.k3,c.k4,c.k5,c.name,c.cap,c.gQ,c.blk,c.win,c.rx,c.tx,c.cq⟩,rfl,hg,rfl,rfl,r.now,rfl⟩
theorem Rn.clock(r:Rn K s n t g j p m)(ht:t<=20000):Rn K s n (t+1) g j p (m.clock 1):=by
 refine⟨r.cf.clock 1 (by decide),?_,r.iB,r.iO,r.mask,r.yz,r.FJ,r.port,?_,rfl,r.ends,r.old,r.iZ,r.over,r.gr,Nat.le_succ_of_le r.le,r.fe⟩
 ·show m.st=4∨m.st=5/\_∨m.st=6/\_
  have:=r.st;omega
 show wrap64 (m.now+1)=((t+1:Nat):Int);rw[r.now,BL _ (by omega)];omega
def AfT(K:Nat->Nat)(s:List UInt8)(n t g:Nat)(j:Option Nat)(p:Int)(fs:Int)(mz:Mc):Prop:=
 (g+n<=t/\Of K s t mz)∨(t<g+n/\Rn K s n t g j p mz/\∃pd:Nat,Sh n t g mz mz.gq pd/\mz.fs=fs+pd)
theorem aX9(r:Rn K s n t g j p m)(hg:m.gq=[])(hc:Ck m)(hn:n<=3000)(ht:t<=10000)(hf:m.fs<=3)(Z:Mc->Prop)(hZ:∀mz,AfT K s n (t+1) g j p m.fs mz->Z mz):ao6 (Tk K) m 1 Z:=fun w Q B hb hr=>by
 have rc:=r.clock (by omega);have hen:(m.clock 1).ended=false:=rc.lK.2;refine ad5 hb 1 Z ((oH hb.mx 1 hen (fun m1=>vw m1=vw (m.clock 1)/\m1.Ok/\Ck m1/\m1.gq=[]) (fun m2=>(g+n<=t+1/\Of K s (t+1) m2)∨(t+1<g+n/\Rn K s n (t+1) g j p m2/\m2.fs=m.fs/\Sh n (t+1) g m2 m2.gq 0)) (AfT K s n (t+1) g j p m.fs) (fun u hu=> ?_) (fun m1 u hm1 hu=> ?_) (fun m2 u hm2 hu=> ?_)).mono ?_)
 ·rcases hc with e|⟨x,e,hx⟩
  ·refine on_ (sO hu (show(m.clock 1).cd=.map []from e)) fun u2 hm=>?_
   exact⟨rfl,_,⟨rfl,rc.cf.ok,bo1 e,hg⟩,hm⟩
  refine(aS0 hu x hx.1 (show(m.clock 1).cd=ak x from e)).mono ?_;rintro ee u2 ⟨rfl,mz,⟨rfl,_⟩|⟨rfl,_⟩,hm⟩
  ·exact⟨rfl,_,⟨rfl,rc.cf.ok,bo3 ⟨x,e,hx⟩,hg⟩,hm⟩
  have o:=rc.cf.ok;exact⟨rfl,(m.clock 1).bn (.map []),⟨rfl,⟨o.1,o.2,o.3,o.4,o.5,o.6,o.7,o.8,o.9,o.10,o.11,o.12,o.13,o.14,o.15,o.16⟩,bo1 rfl,hg⟩,hm⟩
 ·obtain⟨e,o,k,hq⟩:=hm1
  have r1:Rn K s n (t+1) g j p m1:=rc.same e o;refine aR8 hu (by
   rcases r1.st with e|⟨e,_⟩|⟨e,_⟩
   ·exact bo1 e
   ·exact bo3 (bo1 e)
   exact bo3 (bo3 e)) _ (fun u2 hu2=>(ba3 hu2 r1 hq k hn (by omega)).mono ?_)
  rintro ee u3 ⟨rfl,mz,z,hm⟩;refine⟨rfl,mz,?_,hm⟩
  rcases z with⟨z1,b,rfl⟩|⟨z1,z2,z3,z4,z5⟩
  ·exact bo1 ⟨z1,r1.drop hq b⟩
  exact bo3 ⟨z1,z2,z3.trans ((by5 Mc.fs e:)),z5⟩
 ·rcases hm2 with⟨z1,z2⟩|⟨z1,z2,z3,z5⟩
  ·refine on_ (l8 hu (by unfold Mc.lK;rw[z2.ph];rfl)) fun u2 hm=>?_
   exact⟨rfl,_,bo1 ⟨z1,z2⟩,hm⟩
  refine Rs hu z2.lK.1 _ (fun _=>bo3 ⟨z1,z2,0,z5,by rw[z3];simp⟩) (by rw[z3];exact hf) (fun _ u2 hu2=>(aY7 hu2 z2 (by rw[z3];exact hf) z5).mono ?_);rintro ee u3 ⟨rfl,mz,⟨y1,y2,y3,y4⟩,hm⟩;exact⟨rfl,mz,bo3 ⟨z1,y1,1,y4,by rw[y2,z3];rfl⟩,hm⟩
 rintro ee w' ⟨rfl,mz,z,hm⟩;exact⟨rfl,mz,hZ mz z,hm⟩
end Ho
namespace Ho
open Bs Js
variable{w0 w w':fV} {Q B H:Nat} {m m':Mc} {h h':Host}
structure Al (w0 w:fV) (Q B H:Nat) (m:Mc) (h:Host):Prop where
 bx:Bx w (iq B m) w Q B m
 ho:At w H h
 bl:gm w0.heap.size w0 w
 ng:4<=w0.heap.size
 uq:w0.heap.size<=Q
 uh:w0.heap.size<=H
 uf:∀k,iq B m k->w0.heap.size<=k
theorem Al.nh(k:Al w0 w Q B H m h): ¬iq B m H:=ap5 k.bx.mx k.ho (by decide) (by decide) (by decide)
theorem Al.hq(k:Al w0 w Q B H m h):H≠Q:=by
 rintro rfl;have:=k.ho;unfold At at this;rw[k.bx.row]at this;simp only[bq6,br6]at this;exact absurd this.2.1 (by decide)
theorem Al.af6(k:Al w0 w Q B H m h)(j:Bx w (iq B m) w' Q B m'):Al w0 w' Q B H m' h where
 bx:=j.base
 ho:=(j.mx.kept H (gG k.ho) k.nh).trans k.ho
 bl:=⟨j.mx.os.trans k.bl.os,j.mx.tape.trans k.bl.tape,j.mx.output.trans k.bl.output,bo6 k.bl.size j.mx.size,fun i hi=>(j.mx.kept i (bo9 hi k.bl.size) (fun hf=>by have:=k.uf i hf;omega)).trans (k.bl.block i hi)⟩
 ng:=k.ng
 uq:=k.uq
 uh:=k.uh
 uf:=fun i hi=>by
  rcases j.mx.own i hi with a|a
  ·exact k.uf i a
  exact bo6 k.bl.size a
theorem Al.turned(k:Al w0 w Q B H m h){b:Nat}(t:PU w w' b)(hb: ¬iq B m b)(hq:b≠Q)(hu:w0.heap.size<=b)(hh:At w' H h'):Al w0 w' Q B H m h' where
 bx:=⟨moved k.bx.mx t hb (bo6 k.ng hu),(t.block Q k.bx.lt (fun e=>hq e.symm)).trans k.bx.row⟩
 ho:=hh
 bl:=⟨t.os.trans k.bl.os,t.tape.trans k.bl.tape,t.output.trans k.bl.output,bo6 k.bl.size t.size,fun i hi=>(t.block i (bo9 hi k.bl.size) (fun e=>by omega)).trans (k.bl.block i hi)⟩
 ng:=k.ng
 uq:=k.uq
 uh:=k.uh
 uf:=k.uf
theorem Al.host(k:Al w0 w Q B H m h)(t:PU w w' H)(hh:At w' H h'):Al w0 w' Q B H m h':=k.turned t k.nh k.hq k.uh hh
theorem Al.below(k:Al w0 w Q B H m h)(hb:gm w.heap.size w w'):Al w0 w' Q B H m h:=
 ⟨(k.bx.below hb).base,k.ho.below hb,k.bl.trans (hb.mono k.bl.size),k.ng,k.uq,k.uh,k.uf⟩
def Ou(b0:Nat)(w:fV)(B:Nat)(m:Mc)(v:Value)(q:List ByteArray):Prop:=(v=.slice none 0 0/\q=[])∨∃(g off cap:Nat) (cur:Array Value),v=.slice (some (a_ g off)) q.length cap/\b0<=g/\ ¬iq B m g/\w.heap[g]?=some (.cells cur 9 (0,0))/\off+cap<=cur.size/\q.length<=cap/\∀i (hi:i<q.length),cur[off+i]?=some (.string q[i])
variable{b0:Nat} {v:Value} {q:List ByteArray}
theorem Ou.af6(r:Ou b0 w B m v q)(j:Bx w (iq B m) w' Q B m'):Ou b0 w' B m' v q:=by
 rcases r with r|⟨g,off,cap,cur,h1,h2,h3,h4,h5,h6,h7⟩
 ·exact bo1 r
 refine bo3 ⟨g,off,cap,cur,h1,h2,fun hf=> ?_,(j.mx.kept g (gG h4) h3).trans h4,h5,h6,h7⟩
 rcases j.mx.own g hf with a|a
 ·exact h3 a
 have:=gG h4;omega
theorem Ou.turned(r:Ou b0 w B m v q){b:Nat}(t:PU w w' b){a:Array Value}{ty:TypeId}{z:Nat×Nat}(hk:w.heap[b]?=some (.cells a ty z))(ht:ty≠9):Ou b0 w' B m v q:=by
 rcases r with r|⟨g,off,cap,cur,h1,h2,h3,h4,h5,h6,h7⟩
 ·exact bo1 r
 refine bo3 ⟨g,off,cap,cur,h1,h2,h3,(t.block g (gG h4) (fun e=> ?_)).trans h4,h5,h6,h7⟩;subst e;rw[hk]at h4;simp only[bq6,br6]at h4;exact ht h4.2.1
theorem Ou.host(r:Ou b0 w B m v q)(k:Al w0 w Q B H m h)(t:PU w w' H):Ou b0 w' B m v q:=r.turned t k.ho (by decide)
theorem Ou.below(r:Ou b0 w B m v q)(hb:gm w.heap.size w w'):Ou b0 w' B m v q:=by
 rcases r with r|⟨g,off,cap,cur,h1,h2,h3,h4,h5,h6,h7⟩
 ·exact bo1 r
 exact bo3 ⟨g,off,cap,cur,h1,h2,h3,(hb.block g (gG h4)).trans h4,h5,h6,h7⟩
theorem Ou.own{u:fV}{b:Nat}{ao:Option Addr}{n cp:Nat}(hn:n=q.length)(hb:b0<=b)(o:u.ownsRow b 9 1 (.slice ao n cp) n (Js.strs q))(hf:∀j,b<=j-> ¬iq B m j):Ou b0 u B m (.slice ao n cp) q:=by
 subst hn
 rcases o.2 with⟨h1,h2⟩|⟨g,cap,cur,e1,e2,e3,e4,e5,e6,e7⟩
 ·left
  injection h1 with a1 a2 a3
  subst a1 a3;rw[a2];exact⟨rfl,bB1 a2⟩
 right
 injection e1 with a1 a2 a3
 subst a1 a3;refine⟨g,0,cp,cur,rfl,bo6 hb e2,hf g e2,e3,by rw[e6];omega,e4,fun i hi=> ?_⟩;have z:=by5 (fun z=>z[i]?) e7;simp only[bD2,bz3,hi,bA3,Js.strs,bA0,bq7 hi,Option.map_some]at z;rw[br1]at z;rw[by0];exact z
theorem Ou.cons{f:ByteArray}(r:Ou b0 w B m v (f::q)):∃(g off n1 cap g2 o2 c2:Nat),v=.slice (some (a_ g off)) n1 cap/\n1=q.length+1/\w.cell? (a_ g off)=some (.string f)/\(∀u,(Instr.slice 44 (.slice (some (a_ g off)) n1 cap) (some (.int .i64 1)) none none).run Vh u=.ok (.slice (some (a_ g2 o2)) q.length c2) u)/\Ou b0 w B m (.slice (some (a_ g2 o2)) q.length c2) q:=by
 rcases r with⟨_,r⟩|⟨g,off,cap,cur,h1,h2,h3,h4,h5,h6,h7⟩
 ·cases r
 have h6':q.length+1<=cap:=h6;have hc:w.cell? (a_ g off)=some (.string f):=by
  rw[bn0 _ _ off _ _ _ h4];exact h7 0 (by simp)
 have hrun:∀u,(Instr.slice 44 (.slice (some (a_ g off)) (q.length+1) cap) (some (.int .i64 1)) none none).run Vh u=.ok (sliced (some (a_ g off)) 1 (q.length+1) cap 1) u:=fun u=>by
  have hT:prog.underlying 44=some (.slice (prog.elem 44)):=by kernel_rfl
  have hS:(sizeOf (prog.elem 44)).run Vh u=.ok 1 u:=by kernel_rfl
  rw[run_slice_l u 44 (some (a_ g off)) (q.length+1) cap hT .i64 1 (by decide) (by omega),hS];rfl
 by_cases e1:cap=1
 ·subst e1
  have hq:q=[]:=bB1 (by omega);subst hq;refine⟨g,off,1,1,g,off,0,h1,rfl,hc,hrun,bo3 ⟨g,off,0,cur,rfl,h2,h3,h4,by omega,bn7 _,fun i hi=>absurd hi (by simp)⟩⟩
 have ev:sliced (some (a_ g off)) 1 (q.length+1) cap 1=.slice (some (a_ g (off+1))) q.length (cap-1):=by
  unfold sliced;rw[bo4 e1];show Value.slice (some (((a_ g off):Addr).add 1)) _ _=_;rw[Addr.add_lit];rfl
 rw[ev]at hrun;refine⟨g,off,q.length+1,cap,g,off+1,cap-1,h1,rfl,hc,hrun,bo3 ⟨g,off+1,cap-1,cur,rfl,h2,h3,h4,by omega,by omega,fun i hi=> ?_⟩⟩;have:=h7 (i+1) (by simpa using hi);rw[show off+1+i=off+(i+1)by omega];simpa using this
def au(R:fV->(Nat->Prop)->Prop)(m:Mc)(Z:Mc->Prop):Prop:=∀(w:fV) (Q B:Nat),Bx w (iq B m) w Q B m->R w (iq B m)->f_ Vh 17 #[p_ Q,.int .i64 1] w fun ee w'=>ee=.returned (.int .i64 1)/\∃mz,Z mz/\Bx w (iq B m) w' Q B mz
def Fr(f:ByteArray)(ty ta e2 tp:Int):Prop:=∃(a0 a1 a2 a3 a4 a5 a6 a7 a8 a9 a10 a11 e0:Int) (L:ByteArray) (id ttl pr fr e1:Int) (L2:ByteArray) (fp:Int) (L3:ByteArray),
 (∀u,f_ Vh 19 #[.string f] u fun ee w'=>ee=.returned (.tuple #[.agg (rF a0 a1 a2 a3 a4 a5 a6 a7 a8 a9 a10 a11 ty L),.int .i64 e0])/\gm u.heap.size u w')/\
 (∀u,f_ Vh 20 #[.string L] u fun ee w'=>ee=.returned (.tuple #[.agg (rU id ttl pr fr ta L2),.int .i64 e1])/\gm u.heap.size u w')/\
 (∀u,f_ Vh 24 (rO L2 fr ta) u fun ee w'=>ee=.returned (.tuple #[.agg (rI fp tp L3),.int .i64 e2])/\gm u.heap.size u w')
end Ho
namespace Ho
open Bs Js
variable{w0 w w':fV} {P:Nat→Prop} {Q B H G:Nat} {m m' m1:Mc} {h h':Host} {K:Nat→Nat} {s:List UInt8} {wn:Nat} {img:ByteArray} {n t g:Nat} {j:Option Nat} {p pp:Int}
structure Hn (img:ByteArray) (n:Nat) (h:Host):Prop where
 image:h.image=img
 gK:h.gK=n
 next:h.next=167772161
 opts:h.opts=true
 id:0<=h.id/\h.id<=65535
theorem fM{f:ByteArray}(c:Cf K s wn m)(hend:m.ended=false)(Z:Mc->Prop)
  (HF:∀(w0:fV) (P:Nat->Prop) (u:fV) (B:Nat),Tk K w0 P->Mx w0 P u B (nx m f)->f_ Vh 54 #[p_ B,.string f] u fun ee w'=>ee=.returned (.tuple #[])/\∃mz,Z mz/\Mx w0 P w' B mz):
  au (Tk K) (m.put f) Z:=fun w Q B hb hr=>
 bR hb Z (fB hb.mx f (Zq c.cq (by rw[c.rx];decide)) Z (fun e=>by rw[Xo,hend]at e;cases e) (fun _ u hu=>HF _ _ u B hr hu))
theorem Nt{R:fV->(Nat->Prop)->Prop}{Z Z':Mc->Prop}(q:au R m Z)(hz:∀x,Z x->Z' x):au R m Z':=
 fun w Q B hb hr=>(q w Q B hb hr).mono fun ee w'=>by
  rintro ⟨e,mz,q,hm⟩;exact⟨e,mz,hz mz q,hm⟩
theorem aT3(c:Cf K s wn m)(f:ByteArray):(nx m f).cd=m.cd/\(nx m f).gq=m.gq:=by
 rw[Y9 c.cq (by rw[c.rx];decide)];exact⟨rfl,rfl⟩
theorem aZ8(i f t':Int)(L:ByteArray):(Sb i f t' L).size<=1500:=(Ye i 167772215 167772161 f t' L).1
theorem aZ1(i f t':Int)(L:ByteArray):(Sb i f t' L).toList.isEmpty=false:=by
 unfold Sb;rw[Zg _ _ _ _ _ _ (by decide) (Ye i 167772215 167772161 f t' L).2,bq0];show(Ip.Ls _ _ _ _ _ _).isEmpty=false;have hl:(Ip.Ls i 64 17 167772215 167772161 (Ud.sH f t' 167772215 167772161 L)).length≠0:=by
  rw[Ip.Ls,bn6,Ip.jY];omega
 cases hc:Ip.Ls i 64 17 167772215 167772161 (Ud.sH f t' 167772215 167772161 L)with
 |nil=>rw[hc]at hl;exact absurd rfl hl
 |cons _ _=>rfl
theorem aU9(r:Rn K s n t g j p m)(hg:m.gq=[]){i f t':Int}{L:ByteArray}(hw:Cw (Sb i f t' L) m):au (Tk K) (m.put aB9) (fun mz=>vw mz=vw m/\mz.Ok/\Kn mz/\mz.gq=[rZ i f t' L]):=by
 obtain⟨F,hF⟩:=ex_ aB9;rw[<-hF];refine fM r.cf r.lK.2 _ (fun w0 P u B hr hu=> ?_);have e2:=aU1 r.cf F;have o2:=(r.cf.next F).ok;obtain⟨c2,g2⟩:=aT3 r.cf F;obtain⟨m2,hm2⟩:=ex_ (nx m F);rw[<-hm2]at e2 o2 c2 g2 hu;have r2:=r.same e2 o2;obtain⟨x,ex,ea,el⟩:=hw;have ecd2:m2.cd=ak x:=c2.trans ex;have q:=aj5 hu hr Tk.base (by rcases r2.st with e|⟨e,_⟩|⟨e,_⟩<;>rw[e]<;>decide) 2 0 0 0 0 7 167772161 (by decide) (by rw[r2.addr];decide) (by decide) (by rw[r2.addr];decide) (by rw[ecd2];exact aA8 _ x rfl) x (by rw[ecd2];rfl) (by rw[ecd2];rfl) (by rw[el];exact aZ1 _ _ _ _) (by rw[el];exact bo6 (aZ8 _ _ _ _) (by decide));have cc:=r2.cf;rw[cc.k0,cc.k1,cc.k2,cc.k3,cc.k4,cc.k5,r2.addr]at q;rw[hF];refine on_ q ?_;rintro w' ⟨mz,hmz,hm⟩;refine⟨rfl,mz,?_,hm⟩;have e1:mz=(m2.keep 167772161 ⟨0,2,0,0,0,0,7,wrap64 (m2.now+60),⟨#[]⟩⟩).sent (rZ i f t' L):=by
  rw[hmz];unfold Mc.learns Mc.knows Mc.send;rw[el,show(m2.keep 167772161 ⟨0,2,0,0,0,0,7,wrap64 (m2.now+60),⟨#[]⟩⟩).card=m2.card from rfl,cc.card,aV8]
 rw[e1];refine⟨by rw[dV];exact e2,(aS9 o2 _ _).sent _,⟨⟨0,2,0,0,0,0,7,wrap64 (m2.now+60),⟨#[]⟩⟩,?_,rfl,rfl,rfl,rfl,rfl,rfl,rfl⟩,?_⟩
 ·rw[aa9]
  show m2.cd.put _ _=_;rw[ecd2];rfl
 rw[ah6 _ _ (by show m2.gq.length≠m2.tx;rw[g2,hg,cc.tx];decide)];show m2.gq++_=_;rw[g2,hg];rfl
theorem aU4(n:Nat)(hn:n<=100000):yJ.four (Xm n)=some (n:Int):=by
 unfold Xm yJ.four;simp only[bq6];simp;omega
theorem aS2(n:Nat)(h0:1<=n)(hn:n<=100000):yJ.pF (Ws 5 [10,0,0,1] (Xm n))=some (n:Int):=by
 unfold yJ.pF;rw[show Dh.data (Ws 5 [10,0,0,1] (Xm n)) 51=Xm n from rfl,aU4 n hn];show(if(n:Int)=0 then none else some (n:Int))=_;rw[bo4 (by omega)]
theorem aT9(n:Nat)(h0:1<=n)(hn:n<=100000):yJ.kS (Ws 5 [10,0,0,1] (Xm n)) 167772161 167772161 n=⟨4294967040,167772161,167772161,true,((n/2:Nat):Int),((n/8*7:Nat):Int),n⟩:=by
 unfold yJ.kS;rw[show Dh.data (Ws 5 [10,0,0,1] (Xm n)) 1=[255,255,255,0]from rfl,show Dh.data (Ws 5 [10,0,0,1] (Xm n)) 3=[10,0,0,1]from rfl,show Dh.data (Ws 5 [10,0,0,1] (Xm n)) 58=[]from rfl,show Dh.data (Ws 5 [10,0,0,1] (Xm n)) 59=[]from rfl];have e:((n:Int)!=4294967295)=true:=by simp;omega
 rw[e];show(⟨4294967040,167772161,167772161,true,(n:Int)/2,(n:Int)/8*7,n⟩:yJ.Ul)=_;congr 1
theorem aV4(c:Hn img n h)(gF:Int)(kb:UInt8):ad8 h gF kb=og.ni [2,0,0,0,0,42,2,0,0,0,0,7] 2048 (Ip.Db h.Ww.id 9 17 167772161 167772215 (Ud.sH 67 68 167772161 167772215 (Dh.nH true gF 0 167772215 167772161 [2,0,0,0,0,42] (Ws kb [10,0,0,1] (Xm n))))):=by
 unfold ad8;rw[c.gK,c.next];rfl
theorem aW4(r:Rn K s n t g j p m)(c:Hn img n h)(h56:m.st=5∨m.st=6)(hg:m.gq=[])(h0:1<=n)(hn:n<=100000):au (Tk K) (m.put (ad8 h m.gF 5)) (fun mz=>Rn K s n t t j p mz/\mz.cd=m.cd/\mz.gq=[]/\mz.fs=m.fs/\mz.sF=m.sF/\mz.sT=m.sT/\mz.sL=m.sL):=by
 obtain⟨F,hF⟩:=ex_ (ad8 h m.gF 5);rw[<-hF];refine fM r.cf r.lK.2 _ (fun w0 P u B hr hu=> ?_);have e2:=aU1 r.cf F;have o2:=(r.cf.next F).ok;obtain⟨c2,g2⟩:=aT3 r.cf F;obtain⟨m2,hm2⟩:=ex_ (nx m F);rw[<-hm2]at e2 o2 c2 g2 hu;have r2:=r.same e2 o2;have h562:m2.st=5∨m2.st=6:=by rw[show m2.st=m.st from(by5 Mc.st e2:)];exact h56
 have xid2:m2.gF=m.gF:=(by5 Mc.gF e2:);have q:=aV3 hu hr Tk.base o2 h562 2 0 0 0 0 7 h.Ww.id 167772161 167772215 167772161 10 0 0 1 _ _ _ _ (QQ _) (by decide) (by decide) (by rw[r2.iO];decide) (by decide) n (aS2 n h0 hn);have cc:=r2.cf;rw[cc.k0,cc.k1,cc.k2,cc.k3,cc.k4,cc.k5,xid2,r2.iB,r2.iO]at q;rw[hF,aV4 c];refine on_ q ?_;rintro w' ⟨mz,hmz,hm⟩;refine⟨rfl,mz,?_,hm⟩;have et:=aT9 n h0 hn;have e3:mz={m2.xN 167772161 4294967040 167772161 167772161 true ((n/2:Nat):Int) ((n/8*7:Nat):Int) n with st:=4}:=by
  rw[hmz];unfold Mc.granted;rw[bo4 (by omega)];have et':yJ.kS (Ws 5 [10,0,0,1] [UInt8.ofNat ((n:Int)/16777216).toNat,UInt8.ofNat ((n:Int)/65536%256).toNat,UInt8.ofNat ((n:Int)/256%256).toNat,UInt8.ofNat ((n:Int)%256).toNat]) 167772161 167772161 n=_:=et;rw[et']
 rw[e3];have hb:n/2<=100000/\n/8*7<=100000:=by omega
 have o:=o2;have b1:(0:Int)<=167772161/\(167772161:Int)<=4294967295:=by decide
 have b2:(0:Int)<=4294967040/\(4294967040:Int)<=4294967295:=by decide
 have b3:0<=((n/2:Nat):Int)/\((n/2:Nat):Int)<=4294967295:=by omega
 have b4:0<=((n/8*7:Nat):Int)/\((n/8*7:Nat):Int)<=4294967295:=by omega
 have b5:0<=(n:Int)/\(n:Int)<=4294967295:=by omega
 refine⟨⟨⟨⟨o.1,o.2,o.3,o.4,b1,o.6,b2,b1,b1,b3,b4,b5,o.13,o.14,o.15,o.16⟩,cc.k0,cc.k1,cc.k2,cc.k3,cc.k4,cc.k5,cc.name,cc.cap,cc.gQ,cc.blk,cc.win,cc.rx,cc.tx,cc.cq⟩,bo1 rfl,r2.iB,rfl,rfl,rfl,rfl,r2.port,r2.now,r2.draw,rfl,rfl,rfl,rfl,r2.now,bn7 _,r2.fe⟩,c2,g2.trans hg,(by5 Mc.fs e2:),(by5 Mc.sF e2:),(by5 Mc.sT e2:),(by5 Mc.sL e2:)⟩
def lz(m:Mc):Mc:={vw m with phase:=0,Wl:=0,Be:=0,Od:=0,since:=0,TE:=0,sF:=0,sT:=0,sL:=⟨#[]⟩,fs:=0,fu:=0,img:=.slice none 0 0,ql:=[]}
theorem ba6(e:vw m'=vw m):lz m'=lz m:=by unfold lz;rw[e]
theorem Rn.gK{j':Option Nat}(r:Rn K s n t g j p m)(e:lz m'=lz m)(o:m'.Ok)(f:Fe s j' pp m'):Rn K s n t g j' pp m':=by
 have c:=r.cf;exact⟨⟨o,(by5 Mc.k0 e).trans c.k0,(by5 Mc.k1 e).trans c.k1,(by5 Mc.k2 e).trans c.k2,(by5 Mc.k3 e).trans c.k3,(by5 Mc.k4 e).trans c.k4,(by5 Mc.k5 e).trans c.k5,(by5 Mc.name e).trans c.name,(by5 Mc.cap e).trans c.cap,by rw[show m'.gQ=m.gQ from(by5 Mc.gQ e:)];exact c.gQ,(by5 Mc.blk e).trans c.blk,(by5 Mc.win e).trans c.win,(by5 Mc.rx e).trans c.rx,(by5 Mc.tx e).trans c.tx,(by5 Mc.cq e).trans c.cq⟩,by rw[show m'.st=m.st from(by5 Mc.st e:)];exact r.st,(by5 Mc.iB e).trans r.iB,(by5 Mc.iO e).trans r.iO,(by5 Mc.mask e).trans r.mask,(by5 Mc.yz e).trans r.yz,(by5 Mc.FJ e).trans r.FJ,(by5 Mc.port e).trans r.port,(by5 Mc.now e).trans r.now,(by5 Mc.draw e).trans r.draw,(by5 Mc.ends e).trans r.ends,(by5 Mc.old e).trans r.old,(by5 Mc.iZ e).trans r.iZ,(by5 Mc.over e).trans r.over,(by5 Mc.gr e).trans r.gr,r.le,f⟩
theorem aY8(r:Rn K s n t g j p m)(e:lz m1=lz m)(o:m1.Ok)(hg:m1.gq=[])(x:Nb)(hx:KX x)(k:Nat)(hk:k<=400)(hf:m1.Wl=pp)(hp:bQ pp)(hn:m1.TE=((k+1:Nat):Int)):
  (m1.answered x).gq=[rZ m1.id 1025 pp (XM k)]/\lz (m1.answered x)=lz m/\(m1.answered x).Ok/\(m1.answered x).cd=m1.cd/\(m1.answered x).fs=1/\vw (m1.answered x)=vw m1.Wv.WS/\m1.Xx=XM k:=by
 have hport:m1.port=1025:=(by5 Mc.port e).trans r.port;have hcard:m1.card=[2,0,0,0,0,42]:=by
  have:m1.card=m.card:=by
   unfold Mc.card;rw[show m1.k0=m.k0 from(by5 Mc.k0 e:),show m1.k1=m.k1 from(by5 Mc.k1 e:),show m1.k2=m.k2 from(by5 Mc.k2 e:),show m1.k3=m.k3 from(by5 Mc.k3 e:),show m1.k4=m.k4 from(by5 Mc.k4 e:),show m1.k5=m.k5 from(by5 Mc.k5 e:)]
  rw[this];exact r.cf.card
 have haddr:m1.addr=167772215:=by
  have:m1.addr=m.addr:=by
   unfold Mc.addr;rw[show m1.st=m.st from(by5 Mc.st e:),show m1.iB=m.iB from(by5 Mc.iB e:)]
  rw[this];exact r.addr
 have hims:m1.FJ=167772161:=(by5 Mc.FJ e).trans r.FJ;have hN:m1.Y_.toNat=k%65536:=by
  unfold Mc.Y_;rw[hn];show((((k+1:Nat):Int)-1)%65536).toNat=k%65536;omega
 have hB:m1.Xx=XM k:=by unfold Mc.Xx XM;rw[hN]
 have eF:m1.aJ1 x=rZ m1.id 1025 pp (XM k):=by
  unfold Mc.aJ1;rw[hB,haddr,hims,hport,hf,hcard,hx.2.1,hx.2.2.1,hx.2.2.2.1,hx.2.2.2.2.1,hx.2.2.2.2.2.1,hx.2.2.2.2.2.2];rfl
 have hz:=YI m1;have o1:m1.Wv.WS.Ok:=⟨o.1,o.2,o.3,o.4,o.5,o.6,o.7,o.8,o.9,o.10,o.11,o.12,⟨by show(0:Int)<=0+1;decide,by show(0:Int)+1<=4;decide⟩,by show 0<=m1.port/\m1.port<=65535;rw[hport];decide,by show 0<=m1.Wl/\m1.Wl<=65535;rw[hf];exact hp,by show m1.Xx.size<=262144;omega⟩;rw[XX,eF];have ev:vw (m1.Wv.WS.Ww.sent (rZ m1.id 1025 pp (XM k)))=vw m1.Wv.WS:=by rw[dV];rfl
 refine⟨?_,?_,o1.Ww.sent _,?_,?_,ev,hB⟩
 ·rw[ah6 _ _ (by show m1.gq.length≠m1.tx;rw[hg,show m1.tx=m.tx from(by5 Mc.tx e:),r.cf.tx];decide)]
  show m1.gq++_=_;rw[hg];rfl
 ·rw[ba6 ev]
  exact e
 ·rw[aa9];rfl
 exact(by5 Mc.fs ev:)
theorem aX7(r:Rn K s n t g j p m)(e:lz m1=lz m)(o:m1.Ok)(hg:m1.gq=[])(x:Nb)(hc:m1.cd=ak x)(hx:KX x)(k:Nat)(hk:k<=375)(hph:m1.phase=2)(hf:m1.Wl=pp)(hp:bQ pp)(hn:m1.TE=((k+1:Nat):Int))(hi:m1.ql=s.take (8*k))(hb:m1.Be=8)(hw:m1.Od=1):
  Rn K s n t g (some k) pp (m1.answered x)/\Kn (m1.answered x)/\(m1.answered x).fs=1/\∃i,bQ i/\(m1.answered x).gq=[tF i (m1.answered x)]:=by
 obtain⟨a1,a2,a3,a4,a5,a6,a7⟩:=aY8 r e o hg x hx k (by omega) hf hp hn;have hport:m1.port=1025:=(by5 Mc.port e).trans r.port;have eF:(m1.answered x).sF=1025:=(by5 Mc.sF a6).trans hport;have eT:(m1.answered x).sT=pp:=(by5 Mc.sT a6).trans hf;have eL:(m1.answered x).sL=XM k:=(by5 Mc.sL a6).trans a7;refine⟨r.gK a2 a3 ⟨(by5 Mc.phase a6).trans hph,(by5 Mc.TE a6).trans hn,(by5 Mc.since a6:),(by5 Mc.ql a6).trans hi,eF,eT,eL,(by5 Mc.Wl a6).trans hf,(by5 Mc.Be a6).trans hb,(by5 Mc.Od a6).trans hw,hk⟩,⟨x,a4.trans hc,hx⟩,a5,m1.id,o.id,?_⟩;rw[a1];unfold tF;rw[eF,eT,eL]
theorem Rn.hop(r:Rn K s n t g j p m)(x:Nb)(e:m.cd=ak x)(hx:KX x):Hop m x:=by
 have eh:m.hop m.FJ=167772161:=by rw[r.FJ];exact r.bb7
 exact⟨by rw[eh];decide,by rw[eh,e];rfl,by rw[eh,e];rfl,hx.1⟩
def tfF(id pp:Int)(L:ByteArray):ByteArray:=og.ni [2,0,0,0,0,42,2,0,0,0,0,7] 2048 (Ip.Db id 9 17 167772161 167772215 (Ud.sH pp 1025 167772161 167772215 L))
def Goes(K:Nat->Nat)(s:List UInt8)(n t g k:Nat)(p:Int)(mz:Mc):Prop:=Rn K s n t g (some k) p mz/\Kn mz/\mz.fs=1/\∃i,bQ i/\mz.gq=[tF i mz]
theorem Te(r:Rn K s n t g j p m)(id:Int)(hid:bQ id)(hpp:bQ pp)(hpf:j=none∨∃k,j=some k/\pp=p)(G:Tf.RH)(hk:Tf.UU G=0)(hz:(⟨(Tf.U7 G).toArray⟩:ByteArray).size<=1472)(hp:Tf.ZO G)(hb:G.block<65536)(Z:Mc->Prop)
  (LK:∀(m2:Mc) (B:Nat),vw m2=vw m->m2.Ok->m2.cd=m.cd->m2.gq=m.gq->Looks (Tk K) G.op G.block ⟨G.text.toArray⟩ ⟨G.data.toArray⟩ G.fs.length (Tf.Rf G.fs) pp B m2 Z):
  au (Tk K) (m.put (tfF id pp ⟨(Tf.U7 G).toArray⟩)) Z:=by
 obtain⟨F,hF⟩:=ex_ (tfF id pp ⟨(Tf.U7 G).toArray⟩);rw[<-hF];refine fM r.cf r.lK.2 _ (fun w0 P u B hr hu=> ?_);have e2:=aU1 r.cf F;have o2:=(r.cf.next F).ok;obtain⟨c2,g2⟩:=aT3 r.cf F;obtain⟨m2,hm2⟩:=ex_ (nx m F);rw[<-hm2]at e2 o2 c2 g2 hu;have r2:=r.same e2 o2;have q:=Zi hu hr Tk.base o2 r2.lK.1 2 0 0 0 0 7 id pp _ hid hpp (by rw[r2.port];decide) (by rw[r2.port];decide) hz (by
  have f:=r2.fe
  rcases hpf with rfl|⟨k,rfl,rfl⟩
  ·exact bo1 (by rw[f.1];rfl)
  exact bo3 ⟨by rw[f.1];rfl,f.2.2.2.2.2.2.2.1.symm⟩) G rfl hk hp hb Z (LK m2 B e2 o2 c2 g2)
 have cc:=r2.cf;rw[cc.k0,cc.k1,cc.k2,cc.k3,cc.k4,cc.k5,r2.addr,r2.FJ,r2.port]at q;rw[hF];exact q
def aU2(sz:Nat):Tf.RH:=⟨6,0,[],[],[(VC,dg sz),(Gp,dg 8),(I1,dg 1)]⟩
theorem aV0(G:Tf.RH)(hk:Tf.UU G=0):(⟨(Tf.U7 G).toArray⟩:ByteArray).size<=1472:=by
 rw[strSize];unfold Tf.U7;rw[bp0 hk];unfold Tf.UU at hk
 split at hk
 ·cases hk
 split at hk
 ·cases hk
 split at hk
 ·cases hk
 omega
theorem aU5(r:Rn K s n t g none p m)(hg:m.gq=[])(x:Nb)(hc:m.cd=ak x)(hx:KX x)(id:Int)(hid:bQ id)(hpp:bQ pp)(sz:Nat)(hN:aB1 1 sz):au (Tk K) (m.put (tfF id pp ⟨(Tf.U7 (aU2 sz)).toArray⟩)) (Goes K s n t g 0 pp):=by
 refine Te r id hid hpp (bo1 rfl) (aU2 sz) hN.ok (aV0 _ hN.ok) ⟨fun e=>absurd e (by show ¬(6=1);decide),fun _=>⟨rfl,rfl,rfl⟩,fun e=>absurd e (by show ¬(6=3);decide),fun e=>absurd e (by show ¬(6=4);decide),fun e=>absurd e (by show ¬(6=5);decide)⟩ (by show 0<65536;decide) _ (fun m2 B e2 o2 c2 g2=> ?_);have r2:=r.same e2 o2;have cc:=r2.cf;have f:=r2.fe;have cd2:m2.cd=ak x:=c2.trans hc;have LK:=ZQ (K:=K) (B:=B) o2 f.1 (dg sz) (dg 8) (dg 1) sz 8 (1:Nat) hN.i1 hN.i2 hN.i3 (by rw[cc.cap];have:=hN.z;omega) (by rw[cc.blk];decide) (by rw[cc.win];decide) x (r2.hop x cd2 hx) pp (by rw[r2.port];decide) hpp;refine Yr LK ?_;rintro mz rfl;have o:=o2;exact aX7 r2 (m1:=(m2.agreed 8 ((1:Nat):Int)).Xn pp) rfl ⟨o.1,o.2,o.3,o.4,o.5,o.6,o.7,o.8,o.9,o.10,o.11,o.12,o.13,o.14,o.15,o.16⟩ (g2.trans hg) x cd2 hx 0 (by decide) rfl rfl hpp f.2.1 f.2.2.2.1 rfl rfl
theorem Rn.takes{k:Nat}(r:Rn K s n t g (some k) p m)(hp:bQ p)(D:List UInt8)(hD:D.length<=8)(hs:s.length=3000):ah1 m D:=by
 have f:=r.fe;have hl:m.ql.length<=3000:=by rw[f.2.2.2.1,bp7];omega
 exact⟨r.cf.ok,f.1,by rw[f.2.2.2.2.2.2.2.2.1];omega,by rw[r.cf.cap];omega,by omega,by rw[r.port];decide,by rw[f.2.2.2.2.2.2.2.1];exact hp⟩
theorem aS5{k:Nat}(r:Rn K s n t g (some k) p m)(v:Value)(D:List UInt8)(hD:D=(s.drop (k*8)).take 8):∃m1:Mc,m1=m.got v D/\lz m1=lz m/\m1.Ok/\m1.gq=m.gq/\m1.cd=m.cd/\m1.phase=2/\m1.Wl=p/\m1.TE=((k+1+1:Nat):Int)/\m1.ql=s.take (8*(k+1))/\m1.Be=8/\m1.Od=1/\m1.cq=m.cq/\m1.rx=m.rx:=by
 have f:=r.fe;have hk:=f.2.2.2.2.2.2.2.2.2.2;refine⟨_,rfl,rfl,ad2 r.cf.ok v D,rfl,rfl,f.1,f.2.2.2.2.2.2.2.1,?_,?_,f.2.2.2.2.2.2.2.2.1,f.2.2.2.2.2.2.2.2.2.1,rfl,rfl⟩
 ·show IntKind.u16.wrap (m.TE+1)=_
  rw[f.2.1];show(((k+1:Nat):Int)+1)%65536=_;omega
 show m.ql++D=_;rw[f.2.2.2.1,hD,show 8*(k+1)=k*8+8 by omega,show 8*k=k*8 by omega,List.take_add]
theorem Uq(bl:Nat)(D:List UInt8):Tf.ZO (WN bl D):=⟨fun e=>absurd e (by show ¬(3=1);decide),fun e=>absurd e (by show ¬(3=6);decide),fun _=>⟨rfl,rfl⟩,fun e=>absurd e (by show ¬(3=4);decide),fun e=>absurd e (by show ¬(3=5);decide)⟩
theorem aW9{k:Nat}(r:Rn K s n t g (some k) p m)(hg:m.gq=[])(x:Nb)(hc:m.cd=ak x)(hx:KX x)(id:Int)(hid:bQ id)(hp:bQ p)(hs:s.length=3000)(hk:k<=374):au (Tk K) (m.put (tfF id p (YD ((k+1)%65536) ((s.drop (k*8)).take 8)))) (Goes K s n t g (k+1) p):=by
 have hD:((s.drop (k*8)).take 8).length=8:=by rw[bp7,bq8];omega
 obtain⟨D,hDD⟩:=ex_ ((s.drop (k*8)).take 8);rw[<-hDD]at hD ⊢;have hkm:(k+1)%65536=k+1:=bC5 (by omega);rw[hkm];obtain⟨ek,ez⟩:=ax8 (k+1) D (by omega);refine Te r id hid hp (bo3 ⟨k,rfl,rfl⟩) (WN (k+1) D) ek ez (Uq _ _) (by show k+1<65536;omega) _ (fun m2 B e2 o2 c2 g2=> ?_);have r2:=r.same e2 o2;have f:=r2.fe;have cd2:m2.cd=ak x:=c2.trans hc;have LK:=aj0 (K:=K) (B:=B) (r2.takes hp D (by omega) hs) x (r2.hop x cd2 hx) p (by rw[f.2.2.2.2.2.2.2.2.1];omega) (by rw[f.2.2.1,f.2.2.2.2.2.2.2.2.2.1,BL _ (by decide)];rfl);rw[f.2.1]at LK;refine Yr LK ?_;rintro mz ⟨v,rfl⟩;obtain⟨m1,e1,a1,a2,a3,a4,a5,a6,a7,a8,a9,a10,_,_⟩:=aS5 r2 v D hDD;rw[<-e1];exact aX7 r2 a1 a2 (a3.trans (g2.trans hg)) x (a4.trans cd2) hx (k+1) (by omega) a5 a6 hp a7 a8 a9 a10
structure Dd (m:Mc):Prop where
 ph:m.phase=3
 cq:m.cq=[]
 rx:m.rx=16
theorem aX4(r:Rn K s n t g (some 375) p m)(hg:m.gq=[])(x:Nb)(hc:m.cd=ak x)(hx:KX x)(id:Int)(hid:bQ id)(hp:bQ p)(hs:s.length=3000):au (Tk K) (m.put (tfF id p (YD ((375+1)%65536) ((s.drop (375*8)).take 8)))) (fun mz=>Dd mz/\∃i,bQ i/\mz.gq=[rZ i 1025 p (XM 376)]):=by
 have hD:((s.drop (375*8)).take 8).length=0:=by rw[bp7,bq8];omega
 obtain⟨D,hDD⟩:=ex_ ((s.drop (375*8)).take 8);rw[<-hDD]at hD ⊢;obtain⟨ek,ez⟩:=ax8 ((375+1)%65536) D (by omega);refine Te r id hid hp (bo3 ⟨375,rfl,rfl⟩) (WN ((375+1)%65536) D) ek ez (Uq _ _) (by show(375+1)%65536<65536;decide) _ (fun m2 B e2 o2 c2 g2=> ?_);have r2:=r.same e2 o2;have f:=r2.fe;have cd2:m2.cd=ak x:=c2.trans hc;have hi:m2.ql++D=s:=by
  rw[f.2.2.2.1,hDD,show 8*375=375*8 by decide,<-List.take_add];exact bt6 (by omega)
 have hl:m2.ql.length+D.length=3000:=by rw[<-bn6,hi,hs]
 have LK:=an5 (K:=K) (B:=B) (r2.takes hp D (by omega) hs) x (r2.hop x cd2 hx) p (by rw[f.2.2.2.2.2.2.2.2.1];omega) (by omega) (by rw[hi];exact r2.cf.gQ);rw[f.2.1]at LK;refine Yr LK ?_;rintro mz ⟨v,rfl⟩;obtain⟨m1,e1,a1,a2,a3,a4,a5,a6,a7,a8,a9,a10,a11,a12⟩:=aS5 r2 v D hDD;rw[<-e1];obtain⟨b1,b2,b3,b4,b5,b6,b7⟩:=aY8 r2 a1 a2 (a3.trans (g2.trans hg)) x hx 376 (by decide) a6 hp a7;obtain⟨y,hy⟩:=ex_ (m1.answered x);rw[<-hy]at b1 b2 ⊢;refine⟨⟨rfl,?_,?_⟩,m1.id,a2.id,b1⟩
 ·show y.cq=[]
  exact(by5 Mc.cq b2).trans r2.cf.cq
 show y.rx=16;exact(by5 Mc.rx b2).trans r2.cf.rx
theorem aS4(t0 t1 t2 t3 t4 t5:UInt8)(i fr ta fp tp:Int)(L:ByteArray)(hi:bQ i)(hfr:0<=fr/\fr<=4294967295)(hta:0<=ta/\ta<=4294967295)(hfp:bQ fp)(htp:bQ tp)(hL:L.size<=1472):Fr (og.ni [t0,t1,t2,t3,t4,t5,2,0,0,0,0,42] 2048 (Ip.Db i 64 17 fr ta (Ud.sH fp tp fr ta L))) 2048 ta 0 tp:=by
 have hs:=Ye i fr ta fp tp L;exact⟨_,_,_,_,_,_,_,_,_,_,_,_,_,_,_,_,_,_,_,_,_,_,fun u=>Y4 t0 t1 t2 t3 t4 t5 2 0 0 0 0 42 2048 _ (by decide) (by decide) hs.1 u,fun u=>aN8 i 64 17 fr ta _ hi (by decide) (by decide) hfr hta hs.2 u,fun u=>aG1 fp tp fr ta L hfp htp hfr hta hL u⟩
theorem aY0(t0 t1 t2 t3 t4 t5:UInt8)(L:ByteArray)(hL:L.size<=1500):∃ta e2 tp,Fr (og.ni [t0,t1,t2,t3,t4,t5,2,0,0,0,0,42] 2054 L) 2054 ta e2 tp:=by
 have hz:(WR L).size<=262144:=by rw[Z_];omega
 obtain⟨id,ttl,pr,fr,ta,ld,k,h1,_,h2,h3,h4⟩:=RC.bk6 (WR L) hz;obtain⟨f',t',ld',k',h5,_⟩:=RC.Vz ld fr ta (by omega) h2 h3;exact⟨ta,k',t',_,_,_,_,_,_,_,_,_,_,_,_,_,_,_,_,_,_,_,_,_,_,fun u=>Y4 t0 t1 t2 t3 t4 t5 2 0 0 0 0 42 2054 L (by decide) (by decide) hL u,fun u=>Uw.Xu _ id ttl pr fr ta ld k u h1,fun u=>UI.Xu _ f' t' ld' k' fr ta u h5⟩
theorem aV7:∃ta e2 tp,Fr az1 2054 ta e2 tp:=aY0 255 255 255 255 255 255 _ (Yz _ _ _ _ _ _ _ _ _ _ _ _ _ _ _)
theorem aW7:∃ta e2 tp,Fr Yg 2054 ta e2 tp:=aY0 255 255 255 255 255 255 _ (Yz _ _ _ _ _ _ _ _ _ _ _ _ _ _ _)
theorem dn(hne:0<=h.next/\h.next<=4294967295)(hle:0<=h.gK/\h.gK<=4294967295)(t0 t1 t2 t3 t4 t5:UInt8)(i gF fr ta cl:Int)(hi:bQ i)(hx:0<=gF/\gF<=4294967295)(hfr:0<=fr/\fr<=4294967295)(hta:0<=ta/\ta<=4294967295)(hcl:0<=cl/\cl<=4294967295)(kq kb:UInt8)(os:Dh.gU)(hk:kq=1/\kb=2∨kq=3/\kb=5)(hbad:Dh.bad (kY kq os)=false)(hadd:Dh.gW [] (kY kq os)=kY kq os)(ho:Y2 (kY kq os) 53=[kq])(hl:(kY kq os).length<=1000)(hz:(Dh.mr false gF cl 0 0 [2,0,0,0,0,42] (kY kq os)).length<=1472):
  YC NA h (og.ni [t0,t1,t2,t3,t4,t5,2,0,0,0,0,42] 2048 (Ip.Db i 64 17 fr ta (Ud.sH 68 67 fr ta (Dh.nH false gF cl 0 0 [2,0,0,0,0,42] (kY kq os))))) [ad8 h gF kb] h.Ww:=by
 intro w H ka cd hng;have hH0:(0:Nat)≠H:=fun e=>absurd (e▸hng) (by decide);have hH1:(1:Nat)≠H:=fun e=>absurd (e▸hng) (by decide);refine aC0 ka cd t0 t1 t2 t3 t4 t5 i fr ta 68 _ hi hfr hta (by decide) (ad6 _ _ _ _ _ _ _) _ (fun u ku cu hb=> ?_);refine(av8 ku cu hH0 hH1 68 67 _ gF cl 0 0 (kY kq os) kb kq ho hk hl hx hne hle (fun u=>aJ6 false gF cl 0 0 2 0 0 0 0 42 (kY kq os) hx hcl (by decide) (by decide) hbad hadd hz u)).mono ?_;rintro ee w' ⟨g,rfl,o,k2,t2⟩;refine⟨_,_,rfl,some (a_ g 0),1,rfl,Yb o hb.size,k2,?_⟩;exact⟨t2.os.trans hb.os,t2.tape.trans hb.tape,t2.output.trans hb.output,bo6 hb.size t2.size,fun j hj hn=>(t2.block j (bo9 hj hb.size) hn).trans (hb.block j hj)⟩
theorem aY2(gF:Int):(Dh.mr false gF 167772215 0 0 [2,0,0,0,0,42] (kY 3 [])).length<=1472:=by
 unfold Dh.mr;rw[bn6,bn6,Dh.jY _ _ _ _ _ _ _ rfl];simp[kY,Dh.jb,Dh.mq,jH]
theorem Hn.bds(c:Hn img n h)(hn:n<=100000):(0<=h.next/\h.next<=4294967295)/\(0<=h.gK/\h.gK<=4294967295):=⟨by rw[c.next];decide,by rw[c.gK];omega⟩
theorem Hn.Ww(c:Hn img n h):Hn img n h.Ww:=⟨c.image,c.gK,c.next,c.opts,QQ _⟩
theorem aX2{d:ByteArray}(c:Hn img n h)(hn:n<=100000)(hx:0<=m.gF/\m.gF<=4294967295)(k:DOk n t g m d):YC NA h d [ad8 h m.gF 5] h.Ww/\∃ta,Fr d 2048 ta 0 67/\((g+n/8*7<=t/\ta=4294967295∨t<g+n/8*7/\ta=167772161)/\(n/2<=n/8*7->g+n/2<=t)):=by
 have hz:=aY2 m.gF;have hU:∀i:Int,rZ i 68 67 (dhB m.gF)=og.ni [2,0,0,0,0,7,2,0,0,0,0,42] 2048 (Ip.Db i 64 17 167772215 167772161 (Ud.sH 68 67 167772215 167772161 (Dh.nH false m.gF 167772215 0 0 [2,0,0,0,0,42] (kY 3 [])))):=fun i=>by unfold rZ dhB;rfl
 have hV:∀i:Int,dBF i m.gF=og.ni [255,255,255,255,255,255,2,0,0,0,0,42] 2048 (Ip.Db i 64 17 167772215 4294967295 (Ud.sH 68 67 167772215 4294967295 (Dh.nH false m.gF 167772215 0 0 [2,0,0,0,0,42] (kY 3 [])))):=fun i=>by unfold dBF dhB;rfl
 have hb:Dh.bad (kY 3 [])=false:=rfl;have ha:Dh.gW [] (kY 3 [])=kY 3 []:=rfl;have ho:Y2 (kY 3 []) 53=[3]:=rfl;have hl:(kY 3 []).length<=1000:=by decide
 have hd:(Dh.nH false m.gF 167772215 0 0 [2,0,0,0,0,42] (kY 3 [])).size<=1472:=ad6 _ _ _ _ _ _ _;have b1:(0:Int)<=167772215/\(167772215:Int)<=4294967295:=by decide
 have b2:(0:Int)<=167772161/\(167772161:Int)<=4294967295:=by decide
 have b3:(0:Int)<=4294967295/\(4294967295:Int)<=4294967295:=by decide
 have u1:bQ 68:=by constructor<;>decide
 have u2:bQ 67:=by constructor<;>decide
 unfold DOk at k
 rcases k with⟨_,⟨i,hi,hd1,h1,h2⟩|⟨i,hi,hd1,h1⟩⟩
 ·rw[hd1,hU]
  have q1:=dn (h:=h) (c.bds hn).1 (c.bds hn).2 2 0 0 0 0 7 i m.gF 167772215 167772161 167772215 hi hx b1 b2 b1 3 5 [] (bo3 ⟨rfl,rfl⟩) hb ha ho hl hz;have q2:=aS4 2 0 0 0 0 7 i 167772215 167772161 68 67 _ hi b1 b2 u1 u2 hd;exact⟨q1,167772161,q2,bo3 ⟨h1,rfl⟩,fun _=>h2⟩
 rw[hd1,hV];have q1:=dn (h:=h) (c.bds hn).1 (c.bds hn).2 255 255 255 255 255 255 i m.gF 167772215 4294967295 167772215 hi hx b1 b3 b1 3 5 [] (bo3 ⟨rfl,rfl⟩) hb ha ho hl hz;have q2:=aS4 255 255 255 255 255 255 i 167772215 4294967295 68 67 _ hi b1 b3 u1 u2 hd;exact⟨q1,4294967295,q2,bo1 ⟨h1,rfl⟩,fun _=>by omega⟩
theorem Hd:YC NA h az1 [aB9] h:=by
 intro w H ka cd hng;refine(aD4 ka cd).mono ?_;rintro ee w' ⟨g,rfl,o,k2,t2⟩;exact⟨some (a_ g 0),1,rfl,o,k2,t2⟩
theorem aR9:YC NA h Yg [] h:=by
 intro w H ka cd hng;refine on_ (au6 ka cd) ?_;rintro w' ⟨k2,t2⟩;exact⟨none,0,rfl,bq3 _ _ _ _,k2,t2⟩
theorem aV2(c:Hn img n h)(hN:aB1 1 img.size)(i:Int)(hi:bQ i):YC NA h (rZ i 1025 69 (qw 1)) [tfF (h.Wn ((8:Nat):Int) (1:Nat)).Ww.id h.asked.port ⟨(Tf.U7 (aU2 img.size)).toArray⟩] (h.Wn ((8:Nat):Int) (1:Nat)).Ww:=by
 intro w H ka cd hng;have hH0:(0:Nat)≠H:=fun e=>absurd (e▸hng) (by decide);have hH1:(1:Nat)≠H:=fun e=>absurd (e▸hng) (by decide);have hz:(qw 1).size<=1472:=aV0 _ hN.rk;have q:=ag3 ka cd 2 0 0 0 0 7 i 1025 69 (qw 1) hi (by rw[c.next];decide) (by decide) (by decide) (by decide) hz (Xc [107,101,114,110,101,108] 8 (1:Nat)) rfl hN.rk ⟨fun _=>⟨rfl,rfl⟩,fun e=>absurd e (by show ¬(1=6);decide),fun e=>absurd e (by show ¬(1=3);decide),fun e=>absurd e (by show ¬(1=4);decide),fun e=>absurd e (by show ¬(1=5);decide)⟩ (by show 0<65536;decide) (fun ee w'=>∃ao cp,ee=.returned (.tuple #[.slice ao 1 cp,.bool true])/\w'.ownsRow w.heap.size 9 1 (.slice ao 1 cp) 1 (Js.strs [tfF (h.Wn ((8:Nat):Int) (1:Nat)).Ww.id h.asked.port ⟨(Tf.U7 (aU2 img.size)).toArray⟩])/\At w' H (h.Wn ((8:Nat):Int) (1:Nat)).Ww/\PU w w' H) (fun u sa sc ku cu hb hA had=> ?_)
 ·rw[c.next]at q
  exact q
 have hlt:=gG ka;refine(au4 ku cu hH0 hH1 1025 (qw 1) (by decide) (by rw[c.next];decide) c.opts (by rw[c.image];have:=hN.z;omega) (Xc [107,101,114,110,101,108] 8 (1:Nat)).fs sa sc (by show 3<=1000;decide) hN.fz hA (fun ad e=>by have:=had ad e;omega) 8 1 hN.nb hN.nw (by decide) hN.w).mono ?_;rintro ee w' ⟨g,rfl,o,k2,t2⟩;refine⟨_,_,rfl,some (a_ g 0),1,rfl,?_,k2,⟨t2.os.trans hb.os,t2.tape.trans hb.tape,t2.output.trans hb.output,bo6 hb.size t2.size,fun j hj hn=>(t2.block j (bo9 hj hb.size) hn).trans (hb.block j hj)⟩⟩;have o2:=Yb o hb.size;rw[c.image]at o2;have ef:(h.Wn ((8:Nat):Int) (1:Nat)).frame h.asked.port 1025 ⟨(Tf.U7 ⟨6,0,[],[],[(VC,dg img.size),(Gp,dg 8),(I1,dg 1)]⟩).toArray⟩ h.next 167772215=tfF (h.Wn ((8:Nat):Int) (1:Nat)).Ww.id h.asked.port ⟨(Tf.U7 (aU2 img.size)).toArray⟩:=by
  unfold Host.frame tfF;rw[c.next];rfl
 rw[<-ef];exact o2
structure Hb (img:ByteArray) (n:Nat) (p:Int) (k T:Nat) (h:Host):Prop where
 hn:Hn img n h
 port:h.port=p
 block:h.block=8
 window:h.window=((1:Nat):Int)
 sent:h.sent=(k:Int)∨h.sent+1=(k:Int)
 last:h.last=(k:Int)->h.whn<T
theorem Wd{k:Nat}(b:Hb img n p k t h)(hnow:h.now=t)(i:Int)(hi:bQ i)(hp:bQ p)(h67:p≠67)(hs0:0<=h.sent)(hz:img.size=3000)(hk:k<=376)(N:Nat)(hN:N<=1)(hN1:N=1->k*8<=3000)(hN2:N=0->3000<k*8):
  YC NA h (rZ i 1025 p (XM k)) ((h.Wv k k).WE 1025 k N) ((h.Wv k k).YP N):=by
 intro w H ka cd hng;have hH0:(0:Nat)≠H:=fun e=>absurd (e▸hng) (by decide);have hH1:(1:Nat)≠H:=fun e=>absurd (e▸hng) (by decide);obtain⟨ek,ez⟩:=aC9 k;have hl:((h.Wv k k).WE 1025 k N).length=N:=YH _ _ _ _;rw[hl];obtain⟨sn,jj,hsn,hj,hj1⟩:∃sn jj:Nat,h.sent=sn/\sn+jj=k/\jj<=1:=by
  rcases b.sent with e|e
  ·exact⟨k,0,e,rfl,by omega⟩
  exact⟨h.sent.toNat,1,by omega,by omega,by omega⟩
 have hkm:(((sn+jj)%65536:Nat):Int)=(k:Int):=by rw[hj,bC5 (by omega)]
 have q:=ag3 ka cd 2 0 0 0 0 7 i 1025 h.port (XM k) hi (by rw[b.hn.next];decide) (by decide) (by rw[b.port];exact hp) (by rw[b.port];exact h67) ez ⟨4,k%65536,[],[],[]⟩ rfl ek ⟨fun e=>absurd e (by show ¬(4=1);decide),fun e=>absurd e (by show ¬(4=6);decide),fun e=>absurd e (by show ¬(4=3);decide),fun _=>⟨rfl,rfl,rfl⟩,fun e=>absurd e (by show ¬(4=5);decide)⟩ (by show k%65536<65536;omega) (fun ee w'=>∃ao cp,ee=.returned (.tuple #[.slice ao N cp,.bool true])/\w'.ownsRow w.heap.size 9 1 (.slice ao N cp) N (Js.strs ((h.Wv k k).WE 1025 k N))/\At w' H ((h.Wv k k).YP N)/\PU w w' H) (fun u sa sc ku cu hb hA had=> ?_)
 ·rw[b.hn.next,b.port]at q
  exact q
 have hkk:((k%65536:Nat):Int)=k:=by rw[bC5 (by omega)]
 have q2:=aA7 ku cu hH0 hH1 1025 (XM k) (by decide) (by rw[b.port];exact hp) (by rw[b.hn.next];decide) b.block sn 1 N jj hsn (by omega) b.window (by decide) (by rw[b.hn.image];omega) (((k%65536:Nat):Int)) ⟨#[]⟩ ⟨#[]⟩ (.slice sa 0 sc) (by
  rw[hkk]
  by_cases e:h.last=k
  ·exact bo3 (by have:=b.last e;rw[hnow];omega)
  exact bo1 e) hj1 (by rw[hkm,hkk]) (fun i hi'=>by
  have e0:i=0:=by omega
  subst e0
  have e1:jj=1:=by omega
  rw[hkk,bC5 (by omega)]
  omega) hN (fun i hi'=>by
  rw[b.hn.image]
  have:N=1:=by omega
  have:=hN1 this
  omega) (by
  rw[b.hn.image]
  rcases Nat.lt_or_ge N 1 with e|e
  ·have:=hN2 (by omega)
   exact bo3 (by omega)
  exact bo1 (by omega))
 rw[hkk,hj]at q2;rw[<-hkk]at q2 ⊢;refine q2.mono ?_;rintro ee w' ⟨ao,cp,rfl,o,k2,t2⟩;exact⟨_,_,rfl,ao,cp,rfl,Yb o hb.size,k2,⟨t2.os.trans hb.os,t2.tape.trans hb.tape,t2.output.trans hb.output,bo6 hb.size t2.size,fun j hj hn=>(t2.block j (bo9 hj hb.size) hn).trans (hb.block j hj)⟩⟩
structure Se (K:Nat->Nat) (s:List UInt8) (t:Nat) (x:Int) (m:Mc):Prop where
 cf:Cf K s 1 m
 st:m.st=x
 cd:m.cd=.map []
 ph:m.phase=0
 now:m.now=t
 img:m.ql=[]
theorem Se.same{x:Int}(z:Se K s t x m)(e:vw m'=vw m)(o:m'.Ok)(hc:m'.cd=m.cd):Se K s t x m':=⟨z.cf.same e o,(by5 Mc.st e).trans z.st,hc.trans z.cd,(by5 Mc.phase e).trans z.ph,(by5 Mc.now e).trans z.now,(by5 Mc.ql e).trans z.img⟩
theorem Se.ended{x:Int}(z:Se K s t x m):m.ended=false:=by
 unfold Mc.ended;rw[z.ph];rfl
theorem aX1(i:Of K s t m)(ht:t<=20000)(Z:Mc->Prop)(hZ:∀mz,Se K s (t+1) 1 mz->(∃i,bQ i/\mz.gq=[YX i mz.gF 1 []])->Z mz):ao6 (Tk K) m 1 Z:=fun w Q B hb hr=>by
 refine on_ (Br hb ⟨i.cf.ok,bo1 i.st,i.cd,bo1 i.ph⟩ (fun e=>by rw[i.st]at e;cases e) 1 (by decide)) ?_;rintro w' ⟨b,hm⟩;have e:m.nY 1=(m.clock 1).off:=by
  unfold Mc.nY;rw[bo4 (by show ¬(m.phase==3||m.phase==4)=true;rw[i.ph];decide)];unfold Mc.nz;rw[bp0 (show(m.clock 1).st=0 from i.st)]
 have o0:=i.cf.ok;obtain⟨m1,hm1⟩:∃m1:Mc,m1=(({m.clock 1 with gF:=(m.clock 1).draw}:Mc).n_.jR):=⟨_,rfl⟩;have c1:Cf K s 1 m1:=by
  rw[hm1];refine⟨((o0.clock 1 (by decide)).Sj.n_.jR (by show(0:Int)<=3;decide)),i.cf.k0,i.cf.k1,i.cf.k2,i.cf.k3,i.cf.k4,i.cf.k5,i.cf.name,i.cf.cap,i.cf.gQ,i.cf.blk,i.cf.win,i.cf.rx,i.cf.tx,i.cf.cq⟩
 obtain⟨e1,e2,e3⟩:=aA9 c1 (by rw[hm1];show(1:Int)<4;decide) (by rw[hm1];exact i.gq) 1 [];have e4:m.nY 1=m1.say 1 []:=by rw[e,hm1];rfl
 rw[e4]at hm;have ev:vw (m1.say 1 [])=vw m1:=by rw[e1,dV];rfl
 refine⟨rfl,_,hZ _ ⟨e3.at b,?_,?_,?_,?_,?_⟩ ⟨m1.id,c1.ok.id,?_⟩,hm⟩
 ·show(m1.say 1 []).st=1
  exact(by5 Mc.st ev).trans (by rw[hm1];rfl)
 ·show(m1.say 1 []).cd=.map []
  rw[e1,aa9,hm1];exact i.cd
 ·show(m1.say 1 []).phase=0
  exact(by5 Mc.phase ev).trans (by rw[hm1];exact i.ph)
 ·show(m1.say 1 []).now=((t+1:Nat):Int)
  refine(by5 Mc.now ev).trans ?_;rw[hm1];show wrap64 (m.now+1)=((t+1:Nat):Int);rw[i.now,BL _ (by omega)];omega
 ·show(m1.say 1 []).ql=[]
  exact(by5 Mc.ql ev).trans (by rw[hm1];exact i.img)
 show(m1.say 1 []).gq=[YX m1.id (m1.say 1 []).gF 1 []];rw[e2,e1,aB0];rfl
theorem aT6(z:Se K s t 1 m)(hg:m.gq=[])(c:Hn img n h):au (Tk K) (m.put (ad8 h m.gF 2)) (fun mz=>Se K s t 2 mz/\mz.iB=167772215/\mz.iO=167772161/\∃i,bQ i/\mz.gq=[YX i mz.gF 3 [(50,g_ 167772215),(54,g_ 167772161)]]):=by
 obtain⟨F,hF⟩:=ex_ (ad8 h m.gF 2);rw[<-hF];refine fM z.cf z.ended _ (fun w0 P u B hr hu=> ?_);have e2:=aU1 z.cf F;have o2:=(z.cf.next F).ok;obtain⟨c2,g2⟩:=aT3 z.cf F;obtain⟨m2,hm2⟩:=ex_ (nx m F);rw[<-hm2]at e2 o2 c2 g2 hu;have z2:=z.same e2 o2 c2;have cc:=z2.cf;have x2:m2.gF=m.gF:=(by5 Mc.gF e2:);have q:=am2 hu hr Tk.base o2 z2.st 2 0 0 0 0 7 h.Ww.id 167772161 167772215 167772215 167772161 10 0 0 1 (UInt8.ofNat ((n:Int)/16777216).toNat) (UInt8.ofNat ((n:Int)/65536%256).toNat) (UInt8.ofNat ((n:Int)/256%256).toNat) (UInt8.ofNat ((n:Int)%256).toNat) (QQ _) (by decide) (by decide) (by decide) (by decide) (by decide);rw[cc.k0,cc.k1,cc.k2,cc.k3,cc.k4,cc.k5,x2]at q;rw[hF,aV4 c];refine on_ q ?_;rintro w' ⟨mz,hmz,hm⟩;refine⟨rfl,mz,?_,hm⟩;rw[hmz];have o3:((m2.offers 167772215 (vK 10 0 0 1)).oV.jR).Ok:=(o2.offers _ _ (by decide) (aw7 _ _ _ _)).oV.jR (by show(0:Int)<=3;decide);have c3:Cf K s 1 (m2.offers 167772215 (vK 10 0 0 1)).oV.jR:=⟨o3,cc.k0,cc.k1,cc.k2,cc.k3,cc.k4,cc.k5,cc.name,cc.cap,cc.gQ,cc.blk,cc.win,cc.rx,cc.tx,cc.cq⟩;obtain⟨e1,e3,e4⟩:=aA9 c3 (by show(2:Int)<4;decide) (g2.trans hg) 3 (m2.offers 167772215 (vK 10 0 0 1)).qD;have ev:vw ((m2.offers 167772215 (vK 10 0 0 1)).oV.jR.say 3 (m2.offers 167772215 (vK 10 0 0 1)).qD)=vw (m2.offers 167772215 (vK 10 0 0 1)).oV.jR:=by rw[e1,dV];rfl
 refine⟨⟨e4,(by5 Mc.st ev:),?_,(by5 Mc.phase ev).trans z2.ph,(by5 Mc.now ev).trans z2.now,(by5 Mc.ql ev).trans z2.img⟩,(by5 Mc.iB ev:),(by5 Mc.iO ev:),_,o3.id,?_⟩
 ·rw[e1,aa9];exact z2.cd
 rw[e3,e1,aB0];rfl
structure Pr (K:Nat->Nat) (s:List UInt8) (n t g:Nat) (m:Mc):Prop where
 se:Se K s t 3 m
 iB:m.iB=167772215
 iO:m.iO=167772161
 mask:m.mask=4294967040
 yz:m.yz=167772161
 FJ:m.FJ=167772161
 ends:m.ends=true
 old:m.old=((n/2:Nat):Int)
 iZ:m.iZ=((n/8*7:Nat):Int)
 over:m.over=n
 gr:m.gr=g
theorem Pr.same(z:Pr K s n t g m)(e:vw m'=vw m)(o:m'.Ok)(hc:m'.cd=m.cd):Pr K s n t g m':=⟨z.se.same e o hc,(by5 Mc.iB e).trans z.iB,(by5 Mc.iO e).trans z.iO,(by5 Mc.mask e).trans z.mask,(by5 Mc.yz e).trans z.yz,(by5 Mc.FJ e).trans z.FJ,(by5 Mc.ends e).trans z.ends,(by5 Mc.old e).trans z.old,(by5 Mc.iZ e).trans z.iZ,(by5 Mc.over e).trans z.over,(by5 Mc.gr e).trans z.gr⟩
theorem aT5(z:Se K s t 2 m)(hg:m.gq=[])(ha:m.iB=167772215)(hs:m.iO=167772161)(c:Hn img n h)(h0:1<=n)(hn:n<=100000):au (Tk K) (m.put (ad8 h m.gF 5)) (fun mz=>Pr K s n t t mz/\mz.gq=[Yg]):=by
 obtain⟨F,hF⟩:=ex_ (ad8 h m.gF 5);rw[<-hF];refine fM z.cf z.ended _ (fun w0 P u B hr hu=> ?_);have e2:=aU1 z.cf F;have o2:=(z.cf.next F).ok;obtain⟨c2,g2⟩:=aT3 z.cf F;obtain⟨m2,hm2⟩:=ex_ (nx m F);rw[<-hm2]at e2 o2 c2 g2 hu;have z2:=z.same e2 o2 c2;have cc:=z2.cf;have x2:m2.gF=m.gF:=(by5 Mc.gF e2:);have a2:m2.iB=167772215:=(by5 Mc.iB e2).trans ha;have s2:m2.iO=167772161:=(by5 Mc.iO e2).trans hs;have q:=av5 hu hr Tk.base o2 z2.st 2 0 0 0 0 7 h.Ww.id 167772161 167772215 167772161 10 0 0 1 (UInt8.ofNat ((n:Int)/16777216).toNat) (UInt8.ofNat ((n:Int)/65536%256).toNat) (UInt8.ofNat ((n:Int)/256%256).toNat) (UInt8.ofNat ((n:Int)%256).toNat) (QQ _) (by decide) (by decide) (by rw[s2];decide) (by decide);rw[cc.k0,cc.k1,cc.k2,cc.k3,cc.k4,cc.k5,x2,a2]at q;rw[hF,aV4 c];refine on_ q ?_;rintro w' ⟨mz,hmz,hm⟩;refine⟨rfl,mz,?_,hm⟩;have ht':yJ.pF (Ws 5 [10,0,0,1] [UInt8.ofNat ((n:Int)/16777216).toNat,UInt8.ofNat ((n:Int)/65536%256).toNat,UInt8.ofNat ((n:Int)/256%256).toNat,UInt8.ofNat ((n:Int)%256).toNat])=some (n:Int):=aS2 n h0 hn;have et':yJ.kS (Ws 5 [10,0,0,1] [UInt8.ofNat ((n:Int)/16777216).toNat,UInt8.ofNat ((n:Int)/65536%256).toNat,UInt8.ofNat ((n:Int)/256%256).toNat,UInt8.ofNat ((n:Int)%256).toNat]) 167772161 167772161 n=_:=aT9 n h0 hn;obtain⟨m3,hm3⟩:∃m3:Mc,m3={m2 with iO:=167772161,gr:=m2.now,mask:=4294967040,yz:=167772161,FJ:=167772161,ends:=true,old:=((n/2:Nat):Int),iZ:=((n/8*7:Nat):Int),over:=n,st:=3}:=⟨_,rfl⟩;have b1:(0:Int)<=167772161/\(167772161:Int)<=4294967295:=by decide
 have b2:(0:Int)<=4294967040/\(4294967040:Int)<=4294967295:=by decide
 have b3:0<=((n/2:Nat):Int)/\((n/2:Nat):Int)<=4294967295:=by omega
 have b4:0<=((n/8*7:Nat):Int)/\((n/8*7:Nat):Int)<=4294967295:=by omega
 have b5:0<=(n:Int)/\(n:Int)<=4294967295:=by omega
 have o:=o2;have c3:Cf K s 1 m3:=by
  rw[hm3];exact⟨⟨o.1,o.2,o.3,o.4,b1,o.6,b2,b1,b1,b3,b4,b5,o.13,o.14,o.15,o.16⟩,cc.k0,cc.k1,cc.k2,cc.k3,cc.k4,cc.k5,cc.name,cc.cap,cc.gQ,cc.blk,cc.win,cc.rx,cc.tx,cc.cq⟩
 have e1:mz=m3.sent Yg:=by
  rw[hmz];unfold Mc.yQ;rw[ht'];show(m2.grants (vK 10 0 0 1) (yJ.kS _ 167772161 (vK 10 0 0 1) n)).ask m2.iB=_;rw[show vK 10 0 0 1=167772161 from by decide,et',a2];have e3:m2.grants 167772161 ⟨4294967040,167772161,167772161,true,((n/2:Nat):Int),((n/8*7:Nat):Int),n⟩=m3:=by rw[hm3];rfl
  rw[e3];show m3.sent _=_;unfold Mc.Ej Yg;rw[c3.card];rfl
 have g3:m3.gq=[]:=by rw[hm3];exact g2.trans hg
 rw[e1];have pr3:Pr K s n t t m3:=by
  rw[hm3]at c3 ⊢;exact⟨⟨c3,rfl,z2.cd,z2.ph,z2.now,z2.img⟩,a2,rfl,rfl,rfl,rfl,rfl,rfl,rfl,rfl,z2.now⟩
 refine⟨pr3.same (dV _ _) (c3.ok.sent _) (by rw[aa9]),?_⟩;rw[ah6 _ _ (by rw[g3,c3.tx];decide),g3];rfl
theorem aY4(z:Pr K s n t g m)(hg:m.gq=[])(ht:t+1<g+2)(hb:t<=20000)(hgt:g<=20000)(Z:Mc->Prop)(hZ:∀mz,Pr K s n (t+1) g mz->mz.gq=[]->Z mz):ao6 (Tk K) m 1 Z:=fun w Q B hbx hr=>by
 refine on_ (Br hbx ⟨z.se.cf.ok,bo3 (bo3 (bo3 z.se.st)),z.se.cd,bo1 z.se.ph⟩ (fun _=>by rw[z.se.now,z.gr,BL _ (by omega),BL _ (by omega)];omega) 1 (by decide)) ?_;rintro w' ⟨b,hm⟩;have e:m.nY 1=m.clock 1:=by
  unfold Mc.nY;rw[bo4 (by show ¬(m.phase==3||m.phase==4)=true;rw[z.se.ph];decide)];unfold Mc.nz;have hs:(m.clock 1).st=3:=z.se.st;rw[hs];rfl
 rw[e]at hm;refine⟨rfl,_,hZ _ ⟨⟨(z.se.cf.clock 1 (by decide)).at b,z.se.st,z.se.cd,z.se.ph,?_,z.se.img⟩,z.iB,z.iO,z.mask,z.yz,z.FJ,z.ends,z.old,z.iZ,z.over,z.gr⟩ hg,hm⟩;show wrap64 (m.now+1)=((t+1:Nat):Int);rw[z.se.now,BL _ (by omega)];omega
theorem aU0(z:Pr K s n t g m)(hg:m.gq=[])(ht:t+1=g+2)(hb:t<=20000)(hn:16<=n)(Z:Mc->Prop)(hZ:∀mz,Rn K s n (t+1) g none p mz->mz.fs=1->Sh n (t+1) g mz mz.gq 1->Z mz):ao6 (Tk K) m 1 Z:=fun w Q B hbx hr=>by
 have c:=z.se.cf;have hen:(m.clock 1).ended=false:=z.se.ended;have en:(m.clock 1).now=((t+1:Nat):Int):=by
  show wrap64 (m.now+1)=_;rw[z.se.now,BL _ (by omega)];omega
 have cc:=c.clock 1 (by decide);refine ad5 hbx 1 Z ((oH hbx.mx 1 hen (· =m.clock 1) (fun mz=>Rn K s n (t+1) g none p mz/\mz.fs=1/\mz.fu=((t+3:Nat):Int)/\Sh n (t+1) g mz mz.gq 1) (fun mz=>Rn K s n (t+1) g none p mz/\mz.fs=1/\Sh n (t+1) g mz mz.gq 1) (fun u hu=> ?_) (fun m1 u hm1 hu=> ?_) (fun m2 u hm2 hu=> ?_)).mono ?_)
 ·refine on_ (sO hu (show(m.clock 1).cd=.map []from z.se.cd)) fun u2 hm=>?_
  exact⟨rfl,_,rfl,hm⟩
 ·subst hm1
  refine aP hu (show(m.clock 1).st=3 from z.se.st) (by
   rw[en,show(m.clock 1).gr=m.gr from rfl,z.gr,BL _ (by omega)];omega) _ (fun u2 hu2=> ?_)
  obtain⟨mb,hmb⟩:∃mb:Mc,mb={m.clock 1 with st:=4}:=⟨_,rfl⟩;rw[<-hmb]at hu2;have o:=cc.ok;have ob:mb.Ok:=by rw[hmb];exact⟨o.1,o.2,o.3,o.4,o.5,o.6,o.7,o.8,o.9,o.10,o.11,o.12,o.13,o.14,o.15,o.16⟩
  have eb:mb.blk=8:=by rw[hmb];exact c.blk
  have ew:mb.win=((1:Nat):Int):=by rw[hmb];exact c.win
  have enm:mb.name=⟨#[107,101,114,110,101,108]⟩:=by rw[hmb];exact c.name
  have ed:mb.draw=1:=by rw[hmb];rfl
  refine bA hu2 hr.tq ob (by rw[eb];decide) (by rw[ew];decide) (by rw[enm];decide) (by rw[eb];decide+kernel) (by rw[ew];exact am0 1 (by decide)) _ 1025 (by rw[ed];rfl) (fun u3 hu3=> ?_);have hz:=Zb (mb.fresh 1025);have eR:(mb.fresh 1025).XK=qw 1:=by
   show(⟨(Tf.U7 (Xc mb.name.data.toList mb.blk mb.win)).toArray⟩:ByteArray)=_;rw[enm,eb,ew];rfl
  rw[eR]at hu3 hz;obtain⟨ma,hma⟩:∃ma:Mc,ma=mb.asking 1025 (qw 1):=⟨_,rfl⟩;rw[<-hma]at hu3;have oa:ma.Ok:=by
   rw[hma];exact⟨ob.1,ob.2,ob.3,ob.4,ob.5,ob.6,ob.7,ob.8,ob.9,ob.10,ob.11,ob.12,⟨ah _,by show(0:Int)<=4;decide⟩,⟨by show(0:Int)<=1025;decide,by show(1025:Int)<=65535;decide⟩,⟨by show(0:Int)<=69;decide,by show(69:Int)<=65535;decide⟩,by show(qw 1).size<=262144;omega⟩
  have ra:Rn K s n (t+1) g none p ma:=by
   rw[hma,hmb]at oa ⊢;exact⟨⟨oa,c.k0,c.k1,c.k2,c.k3,c.k4,c.k5,c.name,c.cap,c.gQ,c.blk,c.win,c.rx,c.tx,c.cq⟩,bo1 rfl,z.iB,z.iO,z.mask,z.yz,z.FJ,rfl,en,rfl,z.ends,z.old,z.iZ,z.over,z.gr,by omega,⟨rfl,rfl,rfl,z.se.img,rfl,rfl,rfl⟩⟩
  have ga:ma.gq=[]:=by rw[hma,hmb];exact hg
  have ca:ma.cd=.map []:=by rw[hma,hmb];exact z.se.cd
  have fa:ma.fs=0:=by rw[hma];rfl
  have na:ma.now=((t+1:Nat):Int):=ra.now;refine on_ (aY7 hu3 ra (by rw[fa];decide) (by rw[ga];exact .no (bo1 ca))) ?_;rintro u4 ⟨mz,⟨y1,y2,y3,y4⟩,hm⟩;refine⟨rfl,mz,⟨y1,by rw[y2,fa];rfl,?_,y4⟩,hm⟩;rw[y3];show wrap64 (ma.now+ma.Ez ma.fs)=_;unfold Mc.Ez;rw[fa,na,ra.draw,show(2:Int)*2 ^ (0:Int).toNat+1%3-1=2 from rfl,BL _ (by omega)];omega
 ·obtain⟨y1,y2,y3,y4⟩:=hm2
  exact Rs hu y1.lK.1 _ (fun _=>⟨y1,y2,y4⟩) (by rw[y2];decide) (fun hx=>absurd (by rw[y1.now,y3];omega) hx)
 rintro ee w' ⟨rfl,mz,⟨y1,y2,y4⟩,hm⟩;exact⟨rfl,mz,hZ mz y1 y2 y4,hm⟩
end Ho
namespace Ho
open Bs Js
variable{w0 w w' u u':fV} {Q B H:Nat} {m m':Mc} {h h':Host}
theorem PU.then{b:Nat}(s:PU w u b)(t:PU u u' b):PU w u' b:=⟨t.os.trans s.os,t.tape.trans s.tape,t.output.trans s.output,bo6 s.size t.size,fun k hk hn=>(t.block k (bo9 hk s.size) hn).trans (s.block k hk hn)⟩
theorem Wy{g:Nat}{ty:TypeId}:∀(vs:List Value) (o:Nat) (w:fV) (cur:Array Value),w.heap[g]?=some (.cells cur ty (0,0))->o+vs.length<=cur.size->
  ∃cur',(w.setCells g o vs).heap[g]?=some (.cells cur' ty (0,0))/\cur'.size=cur.size/\(∀i,i<o->cur'[i]?=cur[i]?)/\(∀j (hj:j<vs.length),cur'[o+j]?=some vs[j])/\PU w (w.setCells g o vs) g
 |[],o,w,cur,hr,_=>⟨cur,hr,rfl,fun _ _=>rfl,fun j hj=>absurd hj (by simp),PU.refl _ _⟩
 |v::vs,o,w,cur,hr,hs=>by
  have hs':o+(vs.length+1)<=cur.size:=hs;have hr1:=gI w o v hr;obtain⟨cur',a1,a2,a3,a4,a5⟩:=Wy vs (o+1) (w.setCell (a_ g o) v) (cur.setIfInBounds o v) hr1 (by rw[Array.size_setIfInBounds];omega);refine⟨cur',a1,by rw[a2,Array.size_setIfInBounds],fun i hi=> ?_,fun j hj=> ?_,PU.then aA a5⟩
  ·rw[a3 i (by omega),af (by omega)]
  cases j with
  |zero=>
   rw[bC6,a3 o (by omega)];exact Array.getElem?_setIfInBounds_self_of_lt (by omega)
  |succ j=>
   have:=a4 j (by simpa using hj);rw[show o+(j+1)=o+1+j by omega];simpa using this
theorem aV5{ops:Array Oper}{rest:List Oper}{o:Oper}{a:Act}{Qx:Exit->Act->fV->Prop}{b0:Nat}(hg:o.guard=none)(s x:Operand)(hop:o.op=Op.call {callee:=Callee.builtin Builtin.append,args:=#[s,x],argTypes:=#[44,44]})
  (k:Al w0 u Q B H m h) (hb0:b0=w0.heap.size) (r q:List ByteArray) (g off rl cap:Nat) (hs:a.eval s=.slice (some (a_ g off)) rl cap) (hrl:rl=r.length) (or:Ou b0 u B m (.slice (some (a_ g off)) rl cap) r)
  (ax:Option Addr) (nx cx:Nat) (hx:a.eval x=.slice ax nx cx) (hnx:nx=q.length) (ox:Ou b0 u B m (.slice ax nx cx) q) (hl:r.length+q.length<=1000)
  (hK:∀ao n2 cp u',n2=(r++q).length->Al w0 u' Q B H m h->Ou b0 u' B m (.slice ao n2 cp) (r++q)->wpList Vh ops Qx rest (a.put o.dst (.slice ao n2 cp)) u'):wpList Vh ops Qx (o::rest) a u:=by
 obtain⟨i0,hi,hz0,hz1,hz2⟩:=bs1 TZ;subst hrl hnx hb0
 rcases or with⟨e,_⟩|⟨g',off',cap',cur,e,h2,h3,h4,h5,h6,h7⟩
 ·injection e with e _ _;cases e
 injection e with e1 e2 e3
 injection e1 with e1
 injection e1 with e4 e5
 subst e4 e5 e3
 rcases ox with⟨e,hq⟩|⟨gx,ofx,cpx,crx,e,x2,x3,x4,x5,x6,x7⟩
 ·subst hq
  injection e with f1 f2 f3
  subst f1 f3;refine wpList_plain hg fun K' hK'=> ?_;have hrun:(Builtin.append_ #[44,44] o.type #[.slice (some (a_ g off)) r.length cap,.slice none 0 0]).run Vh u=.ok (.slice (some (a_ g off)) r.length cap) u:=by
   simp[Builtin.append_,bw4 by2,sizeOf,typeInfo,hi,Builtin.lenOf,Builtin.firstCells,h6,storeCells]
  unfold Oper.wp;simp[execOp,hop,resolve,invoke,builtin,hs,hx,hrun,Result.andThen];exact hK' _ _ (hK _ _ _ _ (by simp) k (by rw[br8];exact bo3 ⟨g,off,cap,cur,rfl,h2,h3,h4,h5,h6,h7⟩))
 injection e with f1 f2 f3
 subst f1 f3;have hne:g≠H:=by
  rintro rfl;have:=k.ho;unfold At at this;rw[h4]at this;simp only[bq6,br6]at this;exact absurd this.2.1 (by decide)
 have hnq:g≠Q:=by
  rintro rfl;have:=k.bx.row;rw[h4]at this;simp only[bq6,br6]at this;exact absurd this.2.1 (by decide)
 have hcell:∀i (hi:i<r.length),u.cell? (a_ g (off+i))=some (.string r[i]):=fun i hi=>by rw[bn0 _ _ (off+i) _ _ _ h4];exact h7 i hi
 have hnews:∀jj v,(Js.strs q)[jj]?=some v->u.cell? (((a_ gx ofx):Addr).add jj)=some v:=fun jj v hv=>by
  rw[Addr.add_lit,bn0 _ _ (ofx+jj) _ _ _ x4];have hj:jj<q.length:=by
   have:=(bz7.1 hv).1;simpa[Js.strs]using this
  rw[x7 jj hj,<-hv];simp[Js.strs,bq7 hj]
 refine wpList_append_arg u hg s x 44 hop 9 i0 (.string ⟨#[]⟩) 1 16 by2 hi hz0 hz1 hz2 rfl (by decide) g off r.length cap (Js.strs r) hs (by simp[Js.strs]) (fun jj v hv=> ?_) (a_ gx ofx) q.length cx (Js.strs q) hx (by simp[Js.strs]) hnews (fun v hv=> ?_) (fun hc jj hj=> ?_) ?_ ?_ (fun hroom=> ?_) (fun hgrow v' u' ho' hg'=> ?_)
 ·have hj:jj<r.length:=by
   have:=(bz7.1 hv).1;simpa[Js.strs]using this
  rw[hcell jj hj,<-hv];simp[Js.strs,bq7 hj]
 ·simp only[Js.strs,bC4]at hv
  obtain⟨y,_,rfl⟩:=hv;rfl
 ·have hj':jj<q.length:=by simpa[Js.strs]using hj
  refine⟨?_,by simp[World.frozen?,h4]⟩;rw[bn0 _ _ (off+r.length*1+jj) _ _ _ h4,bv2 (by omega)];rfl
 ·unfold maxLen;omega
 ·omega
 ·obtain⟨cur',a1,a2,a3,a4,a5⟩:=Wy (g:=g) (ty:=9) (Js.strs q) (off+r.length*1) u cur h4 (by simp[Js.strs];omega)
  refine hK _ _ _ _ (by simp) (k.turned a5 h3 hnq h2 ((a5.block H (gG k.ho) (fun e=>hne e.symm)).trans k.ho)) (bo3 ⟨g,off,cap,cur',by simp,h2,h3,a1,by omega,by simp;omega,fun i hi=> ?_⟩)
  by_cases hir:i<r.length
  ·rw[a3 _ (by omega),h7 i hir,List.getElem_append_left hir]
  have hiq:i-r.length<q.length:=by simp at hi;omega
  have:=a4 (i-r.length) (by simpa[Js.strs]using hiq);rw[show off+r.length*1+(i-r.length)=off+i by omega]at this;rw[this,List.getElem_append_right (by omega)];simp[Js.strs]
 obtain⟨a2,c2,hv2⟩:=Dh.ib ho';subst hv2;have hb':gm u.heap.size u u':=aG (bn9 _ _) hg' (bn7 _);refine hK _ _ _ _ (by simp) (k.below hb') (Ou.own (by simp) k.bl.size (by rw[show Js.strs (r++q)=Js.strs r++Js.strs q from by simp[Js.strs]];exact ho') (fun jj hj hf=> ?_));have:=k.bx.mx.ik hf;omega
end Ho
namespace Ho
open Bs Js
variable{w0 w w':fV} {P:Nat→Prop} {Q B H G:Nat} {m m' m1:Mc} {h h':Host} {K:Nat→Nat} {s:List UInt8} {wn:Nat} {img:ByteArray} {n A t g b a c k:Nat} {j:Option Nat} {p pp:Int} {q r:List ByteArray} {pd f:Nat}
inductive Sf (n t g:Nat) (m:Mc):List ByteArray->Nat->Nat->Prop where
 |no:Ck m->Sf n t g m [] 0 0
 |t (i:Int):Kn m->bQ i->Sf n t g m [tF i m] 1 1
 |d (x:ByteArray):Ck m->DOk n t g m x->Sf n t g m [x] 0 1
 |dt (x:ByteArray) (i:Int):Kn m->DOk n t g m x->bQ i->Sf n t g m [x,tF i m] 1 2
 |at(i:Int):Cw (Sb i m.sF m.sT m.sL) m->bQ i->Sf n t g m [az1] 1 2
 |dat (x:ByteArray) (i:Int):Cw (Sb i m.sF m.sT m.sL) m->DOk n t g m x->bQ i->Sf n t g m [x,az1] 1 3
 |ad (i:Int):Cw (Sb i 68 67 (dhB m.gF)) m->bQ i->m.st=5∨m.st=6->t<g+n/8*7->g+n/2<=t->Sf n t g m [az1] 0 2
theorem Sh.sf(z:Sh n t g m q pd):∃f,f<=3/\pd<=1/\Sf n t g m q pd f:=by
 cases z with
 |no k=>exact⟨0,by decide,by decide,.no k⟩
 |t i k hi=>exact⟨1,by decide,by decide,.t i k hi⟩
 |d x k k2=>exact⟨1,by decide,by decide,.d x k k2⟩
 |dt x i k k2 hi=>exact⟨2,by decide,by decide,.dt x i k k2 hi⟩
 |«at» i k hi=>exact⟨2,by decide,by decide,.at i k hi⟩
 |dat x i k k2 hi=>exact⟨3,by decide,by decide,.dat x i k k2 hi⟩
 |ad i k hi k2 k3 k4=>exact⟨2,by decide,by decide,.ad i k hi k2 k3 k4⟩
theorem Sf.taken(z:Sf n t g m q pd f):Sf n t g m.taken q pd f:=by
 cases z with
 |no k=>exact .no (k.cd rfl)
 |t i k hi=>exact .t i (k.cd rfl) hi
 |d x k k2=>exact .d x (k.cd rfl) (k2.same rfl)
 |dt x i k k2 hi=>exact .dt x i (k.cd rfl) (k2.same rfl) hi
 |«at» i k hi=>exact .at i (k.cd rfl) hi
 |dat x i k k2 hi=>exact .dat x i (k.cd rfl) (k2.same rfl) hi
 |ad i k hi k2 k3 k4=>exact .ad i (k.cd rfl) hi k2 k3 k4
def Hj(img:ByteArray)(n:Nat)(j:Option Nat)(p:Int)(T:Nat)(h:Host):Prop:=match j with
 |none=>True
 |some k=>Hb img n p k T h/\0<=h.sent/\bQ p/\p≠67
def Pt(d:Nat)(j:Option Nat)(fs:Int)(pd:Nat)(h:Host):Prop:=0<=h.port/\match j with
 |none=>h.port+pd<=3*d+fs
 |some _=>h.port<=3*d+3
def Pd(n x:Nat)(h:Host):Prop:=∃d:Nat,d*n<=x/\0<=h.port/\h.port<=3*d
structure Cs (K:Nat->Nat) (s:List UInt8) (img:ByteArray) (n t b c:Nat) (j:Option Nat) (p:Int) (m:Mc) (h:Host) (pd:Nat):Prop where
 rn:Rn K s n t b j p m
 lt:t<b+n
 gq:m.gq=[]
 fs1:1<=m.fs
 fs2:m.fs<=((c%3+pd:Nat):Int)
 hj:Hj img n j p (if pd=0 then t+1 else t) h
 pt:∃d:Nat,d*n<=b/\Pt d j m.fs pd h
theorem aZ5{d n x:Nat}(h:d*n<=x)(hx:x<3*n+60)(hn:16<=n):d<=6:=by
 rcases Nat.lt_or_ge d 7 with h1|h1
 ·omega
 have:=Nat.mul_le_mul_right n h1;omega
def Ir(K:Nat->Nat)(s:List UInt8)(img:ByteArray)(n t b a c:Nat)(m:Mc)(h:Host):Prop:=∃t',t=t'+1/\Hn img n h/\b<=t'/\
 ((Of K s t' m/\Pd n t' h)∨(Pr K s n t' b m/\m.gq=[]/\t'<b+2/\Pd n b h)∨∃j p,Cs K s img n t' b c j p m h 0/\Ck m)
inductive Jx (K:Nat->Nat) (s:List UInt8) (img:ByteArray) (n k t b c:Nat) (q:List ByteArray) (m:Mc) (h:Host):Prop where
 |QJ (i:Int):Se K s t 1 m->m.gq=[]->bQ i->q=[YX i m.gF 1 []]->3<=k->Pd n t h->Jx K s img n k t b c q m h
 |Lm (i:Int):Se K s t 2 m->m.gq=[]->m.iB=167772215->m.iO=167772161->bQ i->q=[YX i m.gF 3 [(50,g_ 167772215),(54,g_ 167772161)]]->2<=k->Pd n t h->Jx K s img n k t b c q m h
 |pro:Pr K s n t b m->m.gq=[]->t<b+2->q=[]∨q=[Yg]/\1<=k->Pd n b h->Jx K s img n k t b c q m h
 |off:Of K s t m->q=[]->Pd n t h->Jx K s img n k t b c q m h
 |bnd (j:Option Nat) (p:Int) (pd f:Nat):Cs K s img n t b c j p m h pd->pd<=1->Sf n t b m q pd f->f+(if pd=1/\(c+1)%3=0 then 1 else 0)<=k->Jx K s img n k t b c q m h
 |fin:Dd m->q=[]∨(∃i p,bQ i/\q=[rZ i 1025 p (XM 376)]/\1<=k/\(c+1)%3≠0/\Hb img n p 376 t h/\0<=h.sent/\bQ p/\p≠67)->Jx K s img n k t b c q m h
def Jr(K:Nat->Nat)(s:List UInt8)(img:ByteArray)(n k t b a c:Nat)(q:List ByteArray)(m:Mc)(h:Host):Prop:=t<3*n+60/\1<=t/\b<=t/\Hn img n h/\h.now=t/\Jx K s img n k t b c q m h
theorem Hn.clock(c:Hn img n h)(x:Int):Hn img n {h with now:=x}:=⟨c.image,c.gK,c.next,c.opts,c.id⟩
theorem Rn.taken(z:Rn K s n t g j p m):Rn K s n t g j p m.taken:=z.same rfl z.cf.taken.ok
theorem Se.taken{x:Int}(z:Se K s t x m):Se K s t x m.taken:=z.same rfl z.cf.taken.ok rfl
theorem Pr.taken(z:Pr K s n t g m):Pr K s n t g m.taken:=z.same rfl z.se.cf.taken.ok rfl
theorem aY6(hn:16<=n/\n<=2015)(t b a c:Nat)(m:Mc)(h:Host)(h1:1<=t)(ht:t<3*n+60)(i:Ir K s img n t b a c m h):ao6 (Tk K) m 1 (fun mz=>Jr K s img n 8 t b a c mz.gq mz.taken {h with now:=(t:Int)}):=by
 obtain⟨t',rfl,hh,hbt,z⟩:=i;have com:∀mz:Mc,Jx K s img n 8 (t'+1) b c mz.gq mz.taken {h with now:=((t'+1:Nat):Int)}->Jr K s img n 8 (t'+1) b a c mz.gq mz.taken {h with now:=((t'+1:Nat):Int)}:=fun mz x=>⟨ht,h1,by omega,hh.clock _,rfl,x⟩
 rcases z with⟨z,d,d1,d2⟩|⟨z,zg,zt,d,d1,d2⟩|⟨j,p,z,zc⟩
 ·refine aX1 z (by omega) _ (fun mz y ⟨i,hi,e⟩=>com mz (.QJ i y.taken (Xi mz) hi e (by decide) ⟨d,by omega,d2⟩))
 ·by_cases e:t'+1<b+2
  ·exact aY4 z zg e (by omega) (by omega) _ (fun mz y yg=>com mz (.pro y.taken (Xi mz) e (bo1 yg) ⟨d,d1,d2⟩))
  refine aU0 (p:=0) z zg (by omega) (by omega) hn.1 _ (fun mz y yf ys=> ?_);obtain⟨f,f1,f2,f3⟩:=Sh.sf ys;refine com mz (.bnd none 0 1 f ⟨y.taken,by omega,Xi mz,by show 1<=mz.fs;rw[yf];decide,by show mz.fs<=_;rw[yf];omega,trivial,d,d1,d2.1,?_⟩ (bn7 _) f3.taken (by split<;>omega));show h.port+((1:Nat):Int)<=3*d+mz.fs;rw[yf];have:=d2.2;omega
 obtain⟨d,d1,d2⟩:=z.pt;have hfs:=z.fs2;have hf1:=z.fs1;refine aX9 z.rn z.gq zc (by omega) (by omega) (by omega) _ (fun mz y=> ?_)
 rcases y with⟨y1,y2⟩|⟨y1,y2,pd,y3,y4⟩
 ·refine com mz (.off ⟨y2.cf.taken,y2.st,Xi mz,y2.cd,y2.ph,y2.now,y2.img⟩ y2.gq ⟨d+1,?_,?_⟩)
  ·rw[Nat.succ_mul];omega
  refine⟨d2.1,?_⟩;show h.port<=_;have d3:=d2.2
  cases j with
  |none=>
   have d4:h.port+((0:Nat):Int)<=3*d+m.fs:=d3;omega
  |some _=>
   have d4:h.port<=3*d+3:=d3;omega
 obtain⟨f,f1,f2,f3⟩:=Sh.sf y3;refine com mz (.bnd j p pd f ⟨y2.taken,y1,Xi mz,by show 1<=mz.fs;omega,by show mz.fs<=_;omega,?_,d,d1,d2.1,?_⟩ f2 f3.taken (by split<;>omega))
 ·cases j with
  |none=>trivial
  |some kk=>
   obtain⟨x1,x2,x3,x4⟩:=z.hj;refine⟨⟨x1.hn.clock _,x1.port,x1.block,x1.window,x1.sent,fun e=> ?_⟩,x2,x3,x4⟩;have x5:h.whn<((t'+1:Nat):Int):=x1.last e;show h.whn<_
   split<;>omega
 have d3:=d2.2
 cases j with
 |none=>
  have d4:h.port+((0:Nat):Int)<=3*d+m.fs:=d3;show h.port+(pd:Int)<=3*d+mz.fs;omega
 |some _=>exact d3
theorem aY5(k t b a c:Nat)(m:Mc)(h:Host)(z:Jr K s img n k t b a c [] m h):m.phase=3∨m.phase≠3/\m.phase≠4/\(4<=m.st->t<b+n)/\Ir K s img n (t+1) b a c m h:=by
 obtain⟨z1,z2,z3,z4,z5,z6⟩:=z
 cases z6 with
 |QJ i _ _ _ e=>cases e
 |Lm i _ _ _ _ _ e=>cases e
 |pro y1 y2 y3 _ y4=>exact bo3 ⟨by rw[y1.se.ph];decide,by rw[y1.se.ph];decide,fun e=>by rw[y1.se.st]at e;exact absurd e (by decide),t,rfl,z4,z3,bo3 (bo1 ⟨y1,y2,y3,y4⟩)⟩
 |off y1 _ y2=>exact bo3 ⟨by rw[y1.ph];decide,by rw[y1.ph];decide,fun e=>by rw[y1.st]at e;exact absurd e (by decide),t,rfl,z4,z3,bo1 ⟨y1,y2⟩⟩
 |bnd j p pd f y1 y2 y3 y4=>
  have yc:pd=0/\Ck m:=by
   generalize hq:([]:List ByteArray)=q at y3
   cases y3 with
   |no k=>exact⟨rfl,k⟩
   |t i k hi=>cases hq
   |d x k k2=>cases hq
   |dt x i k k2 hi=>cases hq
   |«at» i k hi=>cases hq
   |dat x i k k2 hi=>cases hq
   |ad i k hi k2 k3 k4=>cases hq
  obtain⟨rfl,yc⟩:=yc;have ye:=y1.rn.lK.2;unfold Mc.ended at ye;simp only[bv9]at ye;exact bo3 ⟨by simpa using ye.1,by simpa using ye.2,fun _=>y1.lt,t,rfl,z4,z3,bo3 (bo3 ⟨j,p,y1,yc⟩)⟩
 |fin y1 _=>exact bo1 y1.ph
end Ho
namespace Ho
open Bs Js
variable{K:Nat→Nat} {w:fV} {Q B H:Nat}
theorem bc8{a b:Nat}(h:a<b):(a:Int)<(b:Int):=Int.ofNat_lt.2 h
theorem ba7{a b:Nat}(h: ¬a<b): ¬(a:Int)<(b:Int):=fun q=>h (Int.ofNat_lt.1 q)
theorem bb8{a b:Nat}(h:a=b+1):(0:Int)<(a:Int):=by subst h;omega
theorem bb4{n:Nat}(h:n<=3000):wrap64 (wrap64 (3*(n:Int))+60)=((3*n+60:Nat):Int):=by rw[BL (3*(n:Int)) (by omega),BL _ (by omega)];omega
theorem Bd{x y:Int}(h:x≠y):(x==y)=false:=by simpa using h
theorem Ld{x y:Int}(h:x=y):(x==y)=true:=by simpa using h
theorem Dn{n t g:Nat}(h1:g+t=3*n+61)(h2:t<3*n+60):3*n+60-t<g/\3*n+60-t+(t+1)=3*n+61/\t+1<=3*n+60:=by omega
theorem aW3{a k t:Nat}(h:a+k<=10*t):a+10<=10*(t+1):=by omega
theorem aZ7(a b c d e f g h:Int)(u:fV):(Instr.field 48 (.agg (rC a b c d e f g h)) 3).run Vh u=.ok (.int .u32 d) u:=by kernel_rfl
theorem aW0(a b c d e f g h:Int)(u:fV):(Instr.field 48 (.agg (rC a b c d e f g h)) 1).run Vh u=.ok (.int .i64 b) u:=by kernel_rfl
theorem bd3{b n t:Nat}(h:b+n/8*7<=t):(b:Int)+(n:Int)/8*7<=(t:Int):=by omega
theorem bd6{b n t:Nat}(h: ¬b+n/8*7<=t): ¬(b:Int)+(n:Int)/8*7<=(t:Int):=by omega
theorem i_h{b n t:Nat}(h:b+n/2<=t): ¬(t:Int)<(b:Int)+(n:Int)/2:=by omega
theorem bd1{a A:Nat}(h:a+1<=A):(a:Int)+1<=(A:Int):=by omega
theorem bb9{a A:Nat}(h: ¬a+1<=A): ¬(a:Int)+1<=(A:Int):=by omega
theorem ba0{k k' g:Nat}(hg:g=k+1)(hk:k=k'+1):k'+1<g:=by omega
theorem ao9{a k k' t:Nat}(h:a+k<=10*t)(hk:k=k'+1):a+1+k'<=10*t/\a+k'<=10*t:=by omega
theorem n_z{a k k' t:Nat}(h:a+k<=10*t)(hk:k=k'+1):0+k'<=10*t:=by omega
theorem i_n{b n t:Nat}(h:t<b+n): ¬(b:Int)+(n:Int)<=(t:Int):=by omega
theorem bd0{c:Nat}(h:(c+1)%3≠0):(((c:Int)+1)%3 !=0)=true:=by
 have:((c:Int)+1)%3≠0:=by omega
 simpa using this
theorem bd2{c:Nat}(h:(c+1)%3=0):(((c:Int)+1)%3 !=0)=false:=by
 have:((c:Int)+1)%3=0:=by omega
 simpa using this
theorem bb5{a b:Nat}(h:a<=16)(h2:b<=16):a+b<=1000:=by omega
theorem eq3(m x:Mc)(h:m.st=2):(x.st==3)=true↔(m.st=2/\x.st=3):=by simp[h]
def Cm(K:Nat->Nat)(J:Nat->Nat->Nat->Nat->Nat->List ByteArray->Mc->Host->Prop)(k t b a c:Nat)(r:List ByteArray)(m:Mc)(h:Host)(l:List ByteArray):Prop:=
 (l=[]/\J k t b a c r m h)∨∃x,l=[x]/\x.size<=2000/\m.cq.length<m.rx/\au (Tk K) (m.put x) (fun mz=>(m.st=2/\mz.st=3/\J k t t 0 c (r++mz.gq) mz.taken h)∨(¬(m.st=2/\mz.st=3)/\J k t b a c (r++mz.gq) mz.taken h))
structure Run (K:Nat->Nat) (n A:Nat) (I:Nat->Nat->Nat->Nat->Mc->Host->Prop) (J:Nat->Nat->Nat->Nat->Nat->List ByteArray->Mc->Host->Prop):Prop where
 tick:∀t b a c m h,1<=t->t<3*n+60->I t b a c m h->ao6 (Tk K) m 1 (fun mz=>J 8 t b a c mz.gq mz.taken {h with now:=(t:Int)})
 frame:∀k t b a c f r m h,J k t b a c (f::r) m h->∃k' l h',k=k'+1/\r.length<=16/\YC NA h f l h'/\
  ((∃ta e2 tp,Fr f 2054 ta e2 tp)/\Cm K J k' t b a c r m h' l
  ∨(∃ta,Fr f 2048 ta 0 67/\(m.addr=0/\Cm K J k' t b a c r m h' l∨m.addr≠0/\(b+n/8*7<=t↔ta=4294967295)/\b+n/2<=t/\(a+1<=A->J k' t b (a+1) c r m h')/\(A<a+1->Cm K J k' t t 0 c r m h' l)))
  ∨(∃ta tp,tp≠67/\Fr f 2048 ta 0 tp)/\((c+1)%3≠0->J k' t b a (c+1) r m h')/\((c+1)%3=0->Cm K J k' t b a (c+1) r m h' l))
 done:∀k t b a c m h,J k t b a c [] m h->m.phase=3∨m.phase≠3/\m.phase≠4/\(4<=m.st->t<b+n)/\I (t+1) b a c m h
end Ho
namespace Ho
open Bs Js
variable{w0 w w':fV} {P:Nat→Prop} {Q B H G:Nat} {m m' m1:Mc} {h h':Host} {K:Nat→Nat} {s:List UInt8} {wn:Nat} {img:ByteArray} {n A t g b a c k:Nat} {j:Option Nat} {p pp:Int} {q r:List ByteArray} {pd f:Nat}
abbrev JJ(K:Nat->Nat)(s:List UInt8)(img:ByteArray)(n:Nat):=fun k t b a c q m h=>Jr K s img n k t b a c q m h
theorem ba5(x:Jr K s img n k t b a c r m h):Cm K (JJ K s img n) k t b a c r m h []:=bo1 ⟨rfl,x⟩
theorem J2{F:ByteArray}{Z:Mc->Prop}(hz:F.size<=2000)(cf:Cf K s wn m)(hp:au (Tk K) (m.put F) Z)(hst:m.st≠2)(hZ:∀mz,Z mz->Jr K s img n k t b a c (r++mz.gq) mz.taken h):Cm K (JJ K s img n) k t b a c r m h [F]:=
 bo3 ⟨F,rfl,hz,by rw[cf.cq,cf.rx];decide,Nt hp (fun mz z=>bo3 ⟨fun e=>hst e.1,hZ mz z⟩)⟩
theorem aS7(id pp:Int)(L:ByteArray):(tfF id pp L).size<=2000:=by
 unfold tfF;have h1:(Ud.sH pp 1025 167772161 167772215 L).size<=1480:=WI _ _ _ _ _;exact bo6 (Xj 2 0 0 0 0 42 2 0 0 0 0 7 2048 _ (by decide) (ah0 id _ _ _ h1)).2 (by decide)
theorem lu(z:Jr K s img n k t b a c q m h)(hh:Hn img n h')(hw:h'.now=h.now){k' a' c' b':Nat}{q':List ByteArray}(hb:b'<=t)(x:Jx K s img n k' t b' c' q' m' h'):Jr K s img n k' t b' a' c' q' m' h':=⟨z.1,z.2.1,hb,hh,hw.trans z.2.2.2.2.1,x⟩
theorem Rn.st2(r:Rn K s n t g j p m):m.st≠2/\m.addr≠0:=⟨by rcases r.st with e|⟨e,_⟩|⟨e,_⟩<;>rw[e]<;>decide,by rw[r.addr];decide⟩
theorem ba8{d:Nat}(h0:0<=h.port)(h1:h.port+((1:Nat):Int)<=3*d+m.fs)(hd:d<=6)(hf:m.fs<=3):h.asked.port=h.port+1/\bQ h.asked.port/\h.asked.port≠67:=by
 have e:h.asked.port=h.port+1:=by
  show(h.port+1)%65536=h.port+1;omega
 rw[e];exact⟨rfl,⟨by omega,by omega⟩,by omega⟩
theorem Hn.Wv(x:Hn img n h)(u v:Int)(N:Nat):Hn img n ((h.Wv u v).YP N):=by
 refine⟨x.image,x.gK,x.next,x.opts,?_⟩;unfold Host.YP;show 0<=(if N=0 then h.id else IntKind.u16.wrap (h.id+N))/\(if N=0 then h.id else IntKind.u16.wrap (h.id+N))<=65535
 split
 ·exact x.id
 exact QQ _
theorem aZ4(hn:16<=n/\n<=2015)(hs:s.length=3000)(hsi:s=img.data.toList)(hi3:img.size=3000)(hN:aB1 1 img.size)(i:Int)(hi:bQ i)(z:Jr K s img n (k+1) t b a c [tF i m] m h)(y:Cs K s img n t b c j p m h 1)(hk:Kn m)(hf:1+(if 1=1/\(c+1)%3=0 then 1 else 0)<=k+1):
  ∃l h',YC NA h (tF i m) l h'/\(∃ta tp,tp≠67/\Fr (tF i m) 2048 ta 0 tp)/\((c+1)%3≠0->Jr K s img n k t b a (c+1) [] m h')/\((c+1)%3=0->Cm K (JJ K s img n) k t b a (c+1) [] m h' l):=by
 obtain⟨x,hc,hx⟩:=hk;obtain⟨d,d1,d2⟩:=y.pt;have hd:=aZ5 d1 (Nat.lt_of_le_of_lt z.2.2.1 z.1) hn.1;have hfs:=y.fs2;have hf1:=y.fs1;have hcb:c%3<3:=bu0 _ (by decide);have hh:=z.2.2.2.1;have hnow:h.now=t:=z.2.2.2.2.1;have fe:=y.rn.fe
 cases j with
 |none=>
  obtain⟨f1,f2,f3,f4,f5,f6,f7⟩:=fe;have eT:tF i m=rZ i 1025 69 (qw 1):=by unfold tF;rw[f5,f6,f7]
  have d3:h.port+((1:Nat):Int)<=3*d+m.fs:=d2.2;obtain⟨e1,e2,e3⟩:=ba8 d2.1 d3 hd (by omega);have hh':Hn img n (h.Wn ((8:Nat):Int) ((1:Nat):Int)).Ww:=⟨hh.image,hh.gK,hh.next,hh.opts,QQ _⟩;refine⟨_,_,by rw[eT];exact aV2 hh hN i hi,⟨_,69,by decide,by rw[eT];exact aS4 2 0 0 0 0 7 i 167772215 167772161 1025 69 _ hi (by decide) (by decide) (by constructor<;>decide) (by constructor<;>decide) (aV0 _ hN.rk)⟩,fun hc3=> ?_,fun hc3=> ?_⟩
  ·refine lu z hh' rfl z.2.2.1 (.bnd none p 0 0 ⟨y.rn,y.lt,y.gq,hf1,by omega,trivial,d,d1,?_,?_⟩ (by decide) (.no (bo3 ⟨x,hc,hx⟩)) (by simp))
   ·show 0<=h.asked.port
    rw[e1];have:=d2.1;omega
   show h.asked.port+((0:Nat):Int)<=3*d+m.fs;rw[e1];omega
  have hk1:1<=k:=by rw[bp0 ⟨rfl,hc3⟩]at hf;omega
  refine J2 (aS7 _ _ _) y.rn.cf (aU5 y.rn y.gq x hc hx _ (QQ _) e2 img.size hN) y.rn.st2.1 ?_;rintro mz ⟨w1,w2,w3,i',w4,w5⟩;rw[bw8,w5];refine lu z hh' rfl z.2.2.1 (.bnd (some 0) h.asked.port 1 1 ⟨w1.taken,y.lt,Xi mz,by show 1<=mz.fs;rw[w3];decide,by show mz.fs<=_;rw[w3];omega,⟨⟨hh',rfl,rfl,rfl,bo1 rfl,fun e=>absurd e (by show ¬((-1:Int)=0);decide)⟩,ah _,e2,e3⟩,d,d1,?_,?_⟩ (bn7 _) (Sf.taken (.t i' w2 w4)) (by rw[bo4 (by omega)];omega))
  ·show 0<=h.asked.port
   exact e2.1
  show h.asked.port<=3*d+3;rw[e1];omega
 |some kk=>
  obtain⟨f1,f2,f3,f4,f5,f6,f7,f8,f9,f10,f11⟩:=fe;have eT:tF i m=rZ i 1025 p (XM kk):=by unfold tF;rw[f5,f6,f7]
  have hj:Hb img n p kk t h/\0<=h.sent/\bQ p/\p≠67:=y.hj;obtain⟨x1,x2,x3,x4⟩:=hj;have d3:h.port<=3*d+3:=d2.2;have HA:=Wd x1 hnow i hi x3 x4 x2 hi3 (by omega) 1 (bn7 _) (fun _=>by omega) (fun e=>absurd e (by decide));have hl:(h.Wv kk kk).WE 1025 kk 1=[tfF (h.Wv kk kk).Ww.id p (YD ((kk+1)%65536) ((s.drop (kk*8)).take 8))]:=by
   show [((h.Wv kk kk).YP 0).ac2 1025 (kk+0)]=_;rw[bC6];unfold Host.ac2 Host.frame Host.blk tfF;show [og.ni _ 2048 (Ip.Db (h.Wv kk kk).Ww.id 9 17 h.next 167772215 (Ud.sH h.port 1025 h.next 167772215 (YD ((kk+1)%65536) ((h.image.data.toList.drop (kk*8)).take 8))))]=_;rw[hh.next,hh.image,x1.port,hsi]
  rw[hl]at HA;have hh':Hn img n ((h.Wv kk kk).YP 1):=hh.Wv _ _ _;refine⟨_,_,by rw[eT];exact HA,⟨_,p,x4,by rw[eT];exact aS4 2 0 0 0 0 7 i 167772215 167772161 1025 p _ hi (by decide) (by decide) (by constructor<;>decide) x3 (aC9 kk).2⟩,fun hc3=> ?_,fun hc3=> ?_⟩
  ·refine lu z hh' rfl z.2.2.1 (.bnd (some kk) p 0 0 ⟨y.rn,y.lt,y.gq,hf1,by omega,⟨⟨hh',x1.port,x1.block,x1.window,bo1 rfl,fun _=> ?_⟩,by show(0:Int)<=(kk:Int);omega,x3,x4⟩,d,d1,d2.1,d3⟩ (by decide) (.no (bo3 ⟨x,hc,hx⟩)) (by simp))
   show h.now<((t+1:Nat):Int);rw[hnow];omega
  have hk1:1<=k:=by rw[bp0 ⟨rfl,hc3⟩]at hf;omega
  by_cases h375:kk<=374
  ·refine J2 (aS7 _ _ _) y.rn.cf (aW9 y.rn y.gq x hc hx _ (QQ _) x3 hs h375) y.rn.st2.1 ?_
   rintro mz ⟨w1,w2,w3,i',w4,w5⟩;rw[bw8,w5];exact lu z hh' rfl z.2.2.1 (.bnd (some (kk+1)) p 1 1 ⟨w1.taken,y.lt,Xi mz,by show 1<=mz.fs;rw[w3];decide,by show mz.fs<=_;rw[w3];omega,⟨⟨hh',x1.port,x1.block,x1.window,bo3 rfl,fun e=>absurd e (by show ¬((kk:Int)=((kk+1:Nat):Int));omega)⟩,by show(0:Int)<=(kk:Int);omega,x3,x4⟩,d,d1,d2.1,d3⟩ (bn7 _) (Sf.taken (.t i' w2 w4)) (by rw[bo4 (by omega)];omega))
  have e375:kk=375:=by omega
  subst e375;refine J2 (aS7 _ _ _) y.rn.cf (aX4 y.rn y.gq x hc hx _ (QQ _) x3 hs) y.rn.st2.1 ?_;rintro mz ⟨w1,i',w4,w5⟩;rw[bw8,w5];exact lu z hh' rfl z.2.2.1 (.fin ⟨w1.ph,w1.cq,w1.rx⟩ (bo3 ⟨i',p,w4,rfl,hk1,by omega,⟨hh',x1.port,x1.block,x1.window,bo3 rfl,fun e=>absurd e (by show ¬((375:Int)=(376:Int));decide)⟩,by show(0:Int)<=((375:Nat):Int);decide,x3,x4⟩))
theorem Hj.Ww{T:Nat}(z:Hj img n j p T h):Hj img n j p T h.Ww:=by
 cases j with
 |none=>trivial
 |some kk=>
  obtain⟨x1,x2,x3,x4⟩:=z;exact⟨⟨x1.hn.Ww,x1.port,x1.block,x1.window,x1.sent,x1.last⟩,x2,x3,x4⟩
theorem aS8{x:ByteArray}(hn:16<=n/\n<=2015)(z:Jr K s img n (k+1) t b a c (x::r) m h)(y:Cs K s img n t b c j p m h pd)(hpd:pd<=1)(hd:DOk n t b m x)(hU:Sf n t b m r pd f)(hG:∀mz:Mc,mz.cd=m.cd->mz.sF=m.sF->mz.sT=m.sT->mz.sL=m.sL->Sf n t t mz r pd f)(hf:f+1+(if pd=1/\(c+1)%3=0 then 1 else 0)<=k+1):
  ∃l h',YC NA h x l h'/\∃ta,Fr x 2048 ta 0 67/\m.addr≠0/\(b+n/8*7<=t↔ta=4294967295)/\b+n/2<=t/\(a+1<=A->Jr K s img n k t b (a+1) c r m h')/\(A<a+1->Cm K (JJ K s img n) k t t 0 c r m h' l):=by
 obtain⟨d,d1,d2⟩:=y.pt;have hh:=z.2.2.2.1;obtain⟨HA,ta,HF,HT,HB⟩:=aX2 hh (by omega) y.rn.cf.ok.gF hd;refine⟨_,_,HA,ta,HF,y.rn.st2.2,?_,HB (by omega),fun _=> ?_,fun _=> ?_⟩
 ·rcases HT with⟨h1,rfl⟩|⟨h1,rfl⟩
  ·exact⟨fun _=>rfl,fun _=>h1⟩
  exact⟨fun e=>absurd e (by omega),fun e=>absurd e (by decide)⟩
 ·exact lu z hh.Ww rfl z.2.2.1 (.bnd j p pd f ⟨y.rn,y.lt,y.gq,y.fs1,y.fs2,y.hj.Ww,d,d1,d2⟩ hpd hU (by omega))
 refine J2 (ab6 _ _ _) y.rn.cf (aW4 y.rn hh hd.1 y.gq (by omega) (by omega)) y.rn.st2.1 ?_;rintro mz ⟨w1,w2,w3,w4,w5,w6,w7⟩;rw[w3,br8];refine lu z hh.Ww rfl (bn7 _) (.bnd j p pd f ⟨w1.taken,by omega,Xi mz,by show 1<=mz.fs;rw[w4];exact y.fs1,by show mz.fs<=_;rw[w4];exact y.fs2,y.hj.Ww,d,bo6 d1 z.2.2.1,?_⟩ hpd (Sf.taken (hG mz w2 w5 w6 w7)) (by omega));have e:mz.taken.fs=m.fs:=w4;rw[e];exact d2
theorem aW1(z:Jr K s img n (k+1) t b a c [az1] m h)(y:Cs K s img n t b c j p m h pd)(hpd:pd<=1){i f' t':Int}{L:ByteArray}(hw:Cw (Sb i f' t' L) m)(hG:∀mz:Mc,vw mz=vw m->Kn mz->Sf n t b mz [rZ i f' t' L] pd 1)(hf:1+(if pd=1/\(c+1)%3=0 then 1 else 0)<=k):
  Cm K (JJ K s img n) k t b a c [] m h [aB9]:=by
 obtain⟨d,d1,d2⟩:=y.pt;refine J2 aj2 y.rn.cf (aU9 y.rn y.gq hw) y.rn.st2.1 ?_;rintro mz ⟨w1,w2,w3,w4⟩;rw[bw8,w4];have e:mz.taken.fs=m.fs:=(by5 Mc.fs w1:);refine lu z z.2.2.2.1 rfl z.2.2.1 (.bnd j p pd 1 ⟨(y.rn.same w1 w2).taken,y.lt,Xi mz,by rw[e];exact y.fs1,by rw[e];exact y.fs2,y.hj,d,d1,?_⟩ hpd (Sf.taken (hG mz w1 w3)) hf);rw[e];exact d2
theorem aX8(i gF:Int)(hi:bQ i)(kq:UInt8)(os:Dh.gU):Fr (YX i gF kq os) 2048 4294967295 0 67:=by
 unfold YX;exact aS4 255 255 255 255 255 255 i 0 4294967295 68 67 _ hi (by decide) (by decide) (by constructor<;>decide) (by constructor<;>decide) (ad6 _ _ _ _ _ _ _)
theorem Se.addr{x:Int}(z:Se K s t x m)(hx:x<4):m.addr=0:=by unfold Mc.addr;rw[bp0 (by rw[z.st];exact hx)]
theorem aW8(hn:16<=n/\n<=2015)(hs:s.length=3000)(hsi:s=img.data.toList)(hi3:img.size=3000)(hN:aB1 1 img.size)(k t b a c:Nat)(f:ByteArray)(r:List ByteArray)(m:Mc)(h:Host)(z:Jr K s img n k t b a c (f::r) m h):
  ∃k' l h',k=k'+1/\r.length<=16/\YC NA h f l h'/\
  ((∃ta e2 tp,Fr f 2054 ta e2 tp)/\Cm K (JJ K s img n) k' t b a c r m h' l
  ∨(∃ta,Fr f 2048 ta 0 67/\(m.addr=0/\Cm K (JJ K s img n) k' t b a c r m h' l∨m.addr≠0/\(b+n/8*7<=t↔ta=4294967295)/\b+n/2<=t/\(a+1<=A->JJ K s img n k' t b (a+1) c r m h')/\(A<a+1->Cm K (JJ K s img n) k' t t 0 c r m h' l)))
  ∨(∃ta tp,tp≠67/\Fr f 2048 ta 0 tp)/\((c+1)%3≠0->JJ K s img n k' t b a (c+1) r m h')/\((c+1)%3=0->Cm K (JJ K s img n) k' t b a (c+1) r m h' l)):=by
 have z0:=z;obtain⟨z1,z2,z3,hh,z5,z6⟩:=z;have hbd:=hh.bds (by omega)
 cases z6 with
 |QJ i y yg hi e hk yd=>
  obtain⟨e1,e2⟩:=ae e;subst e2;obtain⟨k,rfl⟩:∃k',k=k'+1:=⟨k-1,by omega⟩;have HA:YC NA h (YX i m.gF 1 []) [ad8 h m.gF 2] h.Ww:=by
   unfold YX;exact dn hbd.1 hbd.2 255 255 255 255 255 255 i m.gF 0 4294967295 0 hi y.cf.ok.gF (by decide) (by decide) (by decide) 1 2 [] (bo1 ⟨rfl,rfl⟩) rfl rfl rfl (by decide) (an9 1 m.gF).1
  have HFr:=aX8 i m.gF hi 1 [];rw[<-e1]at HA HFr;refine⟨k,_,_,rfl,by simp,HA,bo3 (bo1 ⟨_,HFr,bo1 ⟨y.addr (by decide),J2 (ab6 _ _ _) y.cf (aT6 y yg hh) (by rw[y.st];decide) ?_⟩⟩)⟩;rintro mz ⟨w1,w2,w3,i',w4,w5⟩;exact lu z0 hh.Ww rfl z3 (.Lm i' w1.taken (Xi mz) w2 w3 w4 w5 (by omega) yd)
 |Lm i y yg ya ys hi e hk yd=>
  obtain⟨e1,e2⟩:=ae e;subst e2;obtain⟨k,rfl⟩:∃k',k=k'+1:=⟨k-1,by omega⟩;have HA:YC NA h (YX i m.gF 3 [(50,g_ 167772215),(54,g_ 167772161)]) [ad8 h m.gF 5] h.Ww:=by
   unfold YX;exact dn hbd.1 hbd.2 255 255 255 255 255 255 i m.gF 0 4294967295 0 hi y.cf.ok.gF (by decide) (by decide) (by decide) 3 5 _ (bo3 ⟨rfl,rfl⟩) rfl rfl rfl (by decide) (an9 1 m.gF).2
  have HFr:=aX8 i m.gF hi 3 [(50,g_ 167772215),(54,g_ 167772161)];rw[<-e1]at HA HFr;refine⟨k,_,_,rfl,by simp,HA,bo3 (bo1 ⟨_,HFr,bo1 ⟨y.addr (by decide),bo3 ⟨_,rfl,ab6 _ _ _,by rw[y.cf.cq,y.cf.rx];decide,Nt (aT5 y yg ya ys hh (by omega) (by omega)) (fun mz w=> ?_)⟩⟩⟩)⟩;obtain⟨w1,w2⟩:=w;exact bo1 ⟨y.st,w1.se.st,lu z0 hh.Ww rfl (bn7 _) (.pro w1.taken (Xi mz) (by omega) (bo3 ⟨w2,by omega⟩) yd)⟩
 |pro y yg yt e yd=>
  rcases e with e|⟨e,hk⟩
  ·cases e
  obtain⟨e1,e2⟩:=ae e;subst e1 e2;obtain⟨k,rfl⟩:∃k',k=k'+1:=⟨k-1,by omega⟩;exact⟨k,_,_,rfl,by simp,aR9,bo1 ⟨aW7,ba5 (lu z0 hh rfl z3 (.pro y yg yt (bo1 rfl) yd))⟩⟩
 |off y e=>cases e
 |fin y e=>
  rcases e with e|⟨i,p,hi,e,hk,hc3,x1,x2,x3,x4⟩
  ·cases e
  obtain⟨e1,e2⟩:=ae e;subst e1 e2;obtain⟨k,rfl⟩:∃k',k=k'+1:=⟨k-1,by omega⟩;have HA:=Wd x1 z5 i hi x3 x4 x2 hi3 (by decide) 0 (by decide) (fun e=>absurd e (by decide)) (fun _=>by decide);exact⟨k,_,_,rfl,by simp,HA,bo3 (bo3 ⟨⟨_,p,x4,aS4 2 0 0 0 0 7 i 167772215 167772161 1025 p _ hi (by decide) (by decide) (by constructor<;>decide) x3 (aC9 376).2⟩,fun _=>lu z0 (hh.Wv _ _ _) rfl z3 (.fin y (bo1 rfl)),fun e=>absurd e hc3⟩)⟩
 |bnd j p pd ff y hpd sf hf=>
  obtain⟨k,rfl⟩:∃k',k=k'+1:=by
   refine⟨k-1,?_⟩;generalize hq:f::r=q at sf
   cases sf with
   |no k=>cases hq
   |_=>omega
  generalize hq:f::r=q at sf
  cases sf with
  |no k=>cases hq
  |t i kn hi=>
   obtain⟨e1,e2⟩:=ae hq;subst e1 e2;obtain⟨l,h',HA,HF,H1,H2⟩:=aZ4 hn hs hsi hi3 hN i hi z0 y kn (by simpa using hf);exact⟨k,l,h',rfl,by simp,HA,bo3 (bo3 ⟨HF,H1,H2⟩)⟩
  |d x ck dk=>
   obtain⟨e1,e2⟩:=ae hq;subst e1 e2;obtain⟨l,h',HA,ta,HF,H1⟩:=aS8 (A:=A) (f:=0) hn z0 y hpd dk (.no ck) (fun mz c1 _ _ _=>.no (ck.cd c1)) (by omega);exact⟨k,l,h',rfl,by simp,HA,bo3 (bo1 ⟨ta,HF,bo3 H1⟩)⟩
  |dt x i kn dk hi=>
   obtain⟨e1,e2⟩:=ae hq;subst e1 e2;obtain⟨l,h',HA,ta,HF,H1⟩:=aS8 (A:=A) (f:=1) hn z0 y hpd dk (.t i kn hi) (fun mz c1 c2 c3 c4=>by
    have e:tF i m=tF i mz:=by unfold tF;rw[c2,c3,c4]
    rw[e]
    exact .t i (kn.cd c1) hi) (by omega)
   exact⟨k,l,h',rfl,by simp,HA,bo3 (bo1 ⟨ta,HF,bo3 H1⟩)⟩
  |«at» i cw hi=>
   obtain⟨e1,e2⟩:=ae hq;subst e1 e2;exact⟨k,_,_,rfl,by simp,Hd,bo1 ⟨aV7,aW1 z0 y hpd cw (fun mz w1 w2=>by
    have e:rZ i m.sF m.sT m.sL=tF i mz:=by rw[aZ9 i w1];rfl
    rw[e]
    exact .t i w2 hi) (by omega)⟩⟩
  |dat x i cw dk hi=>
   obtain⟨e1,e2⟩:=ae hq;subst e1 e2;obtain⟨l,h',HA,ta,HF,H1⟩:=aS8 (A:=A) (f:=2) hn z0 y hpd dk (.at i cw hi) (fun mz c1 c2 c3 c4=>.at i (by rw[c2,c3,c4];exact cw.cd c1) hi) (by omega);exact⟨k,l,h',rfl,by simp,HA,bo3 (bo1 ⟨ta,HF,bo3 H1⟩)⟩
  |ad i cw hi h56 g1 g2=>
   obtain⟨e1,e2⟩:=ae hq;subst e1 e2;exact⟨k,_,_,rfl,by simp,Hd,bo1 ⟨aV7,aW1 z0 y hpd cw (fun mz w1 w2=>by
    have e2:mz.gF=m.gF:=(by5 Mc.gF w1:)
    have e3:mz.st=m.st:=(by5 Mc.st w1:)
    exact .d _ (bo3 w2) ⟨by rw[e3];exact h56,bo1 ⟨i,hi,by rw[e2],g1,g2⟩⟩) (by omega)⟩⟩
theorem aZ3(hn:16<=n/\n<=2015)(hs:s.length=3000)(hsi:s=img.data.toList)(hi3:img.size=3000)(hN:aB1 1 img.size):Run K n A (fun t b a c m h=>Ir K s img n t b a c m h) (JJ K s img n):=
 ⟨fun t b a c m h h1 h2 i=>aY6 hn t b a c m h h1 h2 i,fun k t b a c f r m h z=>aW8 hn hs hsi hi3 hN k t b a c f r m h z,fun k t b a c m h z=>aY5 k t b a c m h z⟩
end Ho
namespace Ho
open Bs Js
variable{K:Nat→Nat} {w:fV} {Q B H:Nat}
theorem aS6(hng:4<=w.heap.size)(hgl:Gl w)(hcd:NA w)(hG:Hs.RG w 3 K)(hK:∀j,K j<4294967296)(tb:Tb w)
  (tm an:Int) (htm: -9223372036854775808<=tm/\tm<=9223372036854775807) (han: -9223372036854775808<=an/\an<=9223372036854775807) (n A:Nat) (hn:(16:Int)+Sp.l6 tm 2000=n) (hA:Sp.l6 an 5=A)
  (I:Nat->Nat->Nat->Nat->Mc->Host->Prop) (J:Nat->Nat->Nat->Nat->Nat->List ByteArray->Mc->Host->Prop) (hrun:Run K n A I J)
  (hI:∀m,I0 K (ay 3000 1) 1 m->I 1 0 0 0 m ⟨⟨(ay 3000 1).toArray⟩,n,167772161,true,0,0,0,0,0,0,0,0⟩):
  f_ Vh 6 #[.int .i64 tm,.int .i64 an] w fun ee w'=>ee=.returned (.bool true)/\gm w.heap.size w w':=by
 have HPT:=M0 (fun u=>Sp.lY tm 2000 u htm.1 htm.2 (by decide) (by decide));have HPA:=M0 (fun u=>Sp.lY an 5 u han.1 han.2 (by decide) (by decide));have hpb:=Sp.gy tm 2000 (by decide);have hnb:16<=n/\n<=2015:=by omega
 have hAb:A<=4:=by have:=Sp.gy an 5 (by decide);omega
 rw[hA]at HPA;obtain⟨pt,hpt⟩:=ex_ (Sp.l6 tm 2000);rw[<-hpt]at HPT hn hpb;have hpn:wrap64 (16+pt)=(n:Int):=by rw[hn];exact BL _ (by omega)
 have e1:=bb4 (show n<=3000 by omega);have HGL:=M0 hgl;have HCD:=M0 hcd;have HG:=M0 hG;have HTB:=M0 tb;have HNG:=M0 hng;have HRUN:=M0 hrun;have HI:=M0 hI;obtain⟨l,hl⟩:∃l:List UInt8,l=ay 3000 1:=⟨_,rfl⟩;obtain⟨img,himg⟩:∃img:ByteArray,img=⟨l.toArray⟩:=⟨_,rfl⟩;have hil:img.data.toList=l:=by rw[himg]
 have hll:l.length=3000:=by rw[hl];exact G9 _ _
 have HBY:Hid (∀u,f_ Vh 7 #[.int .i64 3000,.int .i64 1] u fun e w'=>e=.returned (.string img)/\gm u.heap.size u w'):=M0 (fun u=>by rw[himg,hl];exact aX0 3000 (by decide) 1 (by decide) u);rw[<-hl,<-himg]at HI;have HC:Hid (∀u,gm w.heap.size w u->f_ Vh 10 #[.string img,.int .i64 8,.int .i64 1] u fun e w'=>e=.returned (.agg (rN 2 0 0 0 0 42 ⟨#[107,101,114,110,101,108]⟩ 600000 ⟨(Hs.Xk K l).toArray⟩ 8 1 16 16))/\gm u.heap.size u w'):=M0 (fun u hb=>ak0 img l K 8 1 u hil (by rw[hll];decide) (HG.below hb HG.lt) hK ((ah9 HCD).kept (hb.block _ (ah9 HCD).lt)));obtain⟨dg,hdg⟩:∃dg:ByteArray,dg=⟨(Hs.Xk K l).toArray⟩:=⟨_,rfl⟩;have HGOOD:=M0 (as3 (K:=K) (s:=l) (wn:=1) (by decide));rw[<-hdg]at HC HGOOD;have HDL:Hid (dg.data.toList=Hs.Xk K l):=M0 (by rw[hdg]);have HRR:Hid (∀(u:fV) (Q B H:Nat) (m:Mc) (h:Host),Al w u Q B H m h->Tk K u (iq B m)):=M0 (fun u Q B H m h a=>Tk.aL6 a.bx.mx (tb.below a.bl (bn7 _)) (fun hf=>by
  have h1:=a.uf _ hf
  have h2:=tb.lt
  omega) (hG.below a.bl hG.lt) hK)
 have HCC:Hid (∀u,gm w.heap.size w u->NA u):=M0 (fun u hb=>hcd.below hb);clear hgl hcd hG tb hng hrun hI hl himg hil hll hdg hpt hA htm han;go_enter func6,ntmps6;go_wp2_with fail;refine on_ (HPT _) fun u1 hu1=>?_;replace hu1:=hu1.symm
 subst hu1;clear HPT;go_wp2_with fail;refine on_ (HBY _) fun u2 hb2=>?_;have HB2:=M0 hb2;have HC2:=M0 (HC _ hb2);clear hb2 HC;go_wp2_with fail;refine on_ HC2 fun u3 hb3=>?_;have HB3:=M0 (HB2.trans (hb3.mono HB2.size));clear hb3 HB2 HC2;go_wp2_with fail;refine(ae0 2 0 0 0 0 42 _ 600000 dg 8 1 16 16 HGOOD _ (bo6 HNG HB3.size) (HGL.below HB3 HNG)).mono ?_;rintro ee u4 ⟨Q,B,bm,cg,gg,rfl,hu4,hq4⟩;have H4:Hid (Bx w (fun _=>False) u4 Q B (Qb (qg.mk 2 0 0 0 0 42 ⟨#[107,101,114,110,101,108]⟩ 600000 dg 8 ((1:Nat):Int) ((16:Nat):Int) ((16:Nat):Int)) bm cg gg)):=M0 ⟨hu4.mx.under HB3 HNG HGL,hu4.row⟩;have HI0:=M0 (aJ2 (K:=K) (s:=l) (wn:=1) dg HDL bm cg gg);have HQ:Hid (w.heap.size<=Q):=M0 (bo6 HB3.size hq4);generalize Qb (qg.mk 2 0 0 0 0 42 ⟨#[107,101,114,110,101,108]⟩ 600000 dg 8 ((1:Nat):Int) ((16:Nat):Int) ((16:Nat):Int)) bm cg gg=m0 at*;clear hu4 hq4 HB3 HGOOD HDL;go_wp2_with fail;refine on_ (HBY _) fun u5 hb5=>?_;have H5:=M0 (H4.below hb5);clear hb5 H4 HBY;have HAL:Hid (Al w (u5.alloc (.cells (rJ img (n:Int) 167772161 true 0 0 0 0 0 0 0 0) 39)) Q B u5.heap.size m0 ⟨img,n,167772161,true,0,0,0,0,0,0,0,0⟩):=M0 (by
  have b5:=gB H5
  have b6:=b5.alloc (.cells (rJ img (n:Int) 167772161 true 0 0 0 0 0 0 0 0) 39)
  exact⟨b6.base,bn3 u5 _,⟨b6.mx.os,b6.mx.tape,b6.mx.output,b6.mx.size,fun k hk=>b6.mx.kept k hk (fun f=>f)⟩,HNG,HQ,b5.mx.size,fun k hk=>(b6.mx.own k hk).resolve_left (fun f=>f)⟩)
 have HII:=M0 (HI m0 HI0);clear H5 HI HI0;go_wp2;generalize u5.alloc (.cells (rJ img (n:Int) 167772161 true 0 0 0 0 0 0 0 0) 39)=U0 at HAL ⊢;generalize u5.heap.size=H at HAL ⊢;go_loopg [9,10,11,12] (3*n+60) (fun gk vb va vc vt wr=>∃b a c t:Nat,vb=.int .i64 b/\va=.int .i64 a/\vc=.int .i64 c/\vt=.int .i64 t/\1<=t/\t<=3*n+60/\gk+t=3*n+61/\b<=t/\a+10<=10*t/\c+10<=10*t/\Hid (∃m h,Al w wr Q B H m h/\I t b a c m h))
 case atStart=>exact⟨0,0,0,1,rfl,rfl,rfl,rfl,bn7 _,by omega,by omega,by omega,by omega,by omega,M0 ⟨_,_,HAL,HII⟩⟩
 obtain⟨b,a,c,t,rfl,rfl,rfl,rfl,ht1,htn,hgk,hbt,hat,hct,HS⟩:=hrel;clear HAL HII
 by_cases htt:t<3*n+60
 case neg=>
  have e2:=ba7 htt;obtain⟨m,h,al,_⟩:=gB HS;have HZ:=M0 al.bl;clear al HS;go_wp2;go_ret;exact⟨rfl,HZ⟩
 have e2:=bc8 htt;obtain⟨m1,h1,a1,i1⟩:=gB HS;have c10:wr.cell? (a_ H 10)=some (.int .i64 h1.now):=a1.ho.cell 10;have f10:=a1.ho.free 10;have HA1:Hid (Al w (wr.setCell (a_ H 10) (.int .i64 (t:Int))) Q B H m1 {h1 with now:=(t:Int)}):=M0 (a1.host aA (a1.ho.set 10 _ rfl));have HT1:=M0 (HRUN.tick t b a c m1 h1 ht1 htt i1);clear a1 i1 HS;go_wp2_with fail;refine on_ (HT1 _ Q B HA1.bx (HRR _ _ _ _ _ _ HA1)) ?_;rintro u2 ⟨m2,j2,b2⟩;obtain⟨h2,hh2⟩:∃h2:Host,h2={h1 with now:=(t:Int)}:=⟨_,rfl⟩;rw[<-hh2]at j2 HA1;clear hh2;have HA2:=M0 (HA1.af6 b2);have HJ2:=M0 j2;have HTK:=M0 (Z4 HA2.bx);obtain⟨n2,hn2⟩:=ex_ m2.gq.length;have HN2:=M0 hn2;rw[<-hn2]at HTK;clear b2 HA1 HT1 c10 f10 j2 hn2;go_wp2_with fail;refine HTK.mono ?_;rintro ee u3 ⟨ao3,cp3,rfl,ho3,b3⟩;have HS3:Hid (∃m h q,n2=q.length/\J 8 t b a c q m h/\Al w u3 Q B H m h/\Ou w.heap.size u3 B m (.slice ao3 n2 cp3) q):=M0 ⟨m2.taken,h2,m2.gq,HN2,HJ2,HA2.af6 b3,Ou.own HN2 (bo6 HA2.bl.size (bn7 _)) (by have e:=gB HN2;exact ho3) (fun j hj hf=>by have h1:=HA2.bx.mx.ik ((Q_ m2 m2.gq.length j).1 hf);omega)⟩;clear ho3 b3 HTK HJ2 HN2 HA2;go_wp2;go_loopg [9,10,11,13] 9 (fun gk vb va vc vo wr=>∃(b a c k n2:Nat) (ao:Option Addr) (cp:Nat),vb=.int .i64 b/\va=.int .i64 a/\vc=.int .i64 c/\vo=.slice ao n2 cp/\gk=k+1/\b<=t/\a+k<=10*t/\c+k<=10*t/\Hid (∃m h q,n2=q.length/\J k t b a c q m h/\Al w wr Q B H m h/\Ou w.heap.size wr B m (.slice ao n2 cp) q))
 case atStart=>exact⟨b,a,c,8,n2,ao3,cp3,rfl,rfl,rfl,rfl,rfl,hbt,by omega,by omega,HS3⟩
 clear HS3 hbt hat hct;obtain⟨b,a,c,k,n2,ao,cp,rfl,rfl,rfl,rfl,hk,hbt,hat,hct,HS⟩:=hrel;rename fV=>wq;obtain⟨m3,h3,q,hq,j3,a3,o3⟩:=gB HS
 cases q with
 |nil=>
  have hn0:n2=0:=hq;subst hn0;as_aux_lemma=>
   have HLK:=M0 (DC a3.bx);have HA3:=M0 a3;have HDN:=M0 (HRUN.done k t b a c m3 h3 j3);clear j3 a3 o3 HS hq;go_upto_region 45 with fail;go_wp2_with fail;refine on_ HLK fun u4 hb4=>?_;have HA4:=M0 (HA3.below hb4);clear HLK HA3 hb4;go_upto_region 46 with fail;obtain⟨X4,hX4⟩:=ex_ u4.heap.size;obtain⟨V4,hV4⟩:=ex_ (u4.alloc (.cells (rC m3.now m3.st m3.phase m3.addr m3.boots m3.ql.length m3.lost m3.cached) 48));have hr4:V4.heap[X4]?=some (.cells (rC m3.now m3.st m3.phase m3.addr m3.boots m3.ql.length m3.lost m3.cached) 48 (0,0)):=by rw[hV4,hX4];exact bn3 u4 _
   have c1:V4.cell? (a_ X4 1)=some (.int .i64 m3.st):=bn0 _ _ 1 _ _ _ hr4;have c2:V4.cell? (a_ X4 2)=some (.int .i64 m3.phase):=bn0 _ _ 2 _ _ _ hr4;have HAV:Hid (Al w V4 Q B H m3 h3):=M0 (by rw[hV4];exact HA4.below b1_);rw[<-hV4,<-hX4];clear hV4 hX4 hr4 HA4
   rcases gB HDN with hp|⟨hp3,hp4,hlt,i4⟩
   ·rw[hp]at c2
    clear HDN hp;go_wp2;go_ret;exact⟨rfl,HAV.bl⟩
   have p3:=Bd hp3;have p4:=Bd hp4;have HI4:=M0 i4;have HLT:=M0 hlt;clear HDN hp3 hp4 hlt i4
   by_cases h4:4<=m3.st
   ·have e6:=i_n (HLT h4)
    go_wp2;go_roundg (3*n+60-t)
    case measure=>exact(Dn hgk htt).1
    exact⟨b,a,c,t+1,rfl,rfl,rfl,rfl,Nat.le_add_left _ _,(Dn hgk htt).2.2,(Dn hgk htt).2.1,Nat.le_succ_of_le hbt,aW3 hat,aW3 hct,M0 ⟨m3,h3,HAV,HI4⟩⟩
   go_wp2;go_roundg (3*n+60-t)
   case measure=>exact(Dn hgk htt).1
   exact⟨b,a,c,t+1,rfl,rfl,rfl,rfl,Nat.le_add_left _ _,(Dn hgk htt).2.2,(Dn hgk htt).2.1,Nat.le_succ_of_le hbt,aW3 hat,aW3 hct,M0 ⟨m3,h3,HAV,HI4⟩⟩
 |cons f r=>
  as_aux_lemma=>
   obtain⟨g,off,n1,cap,g2,o2,c2,hv,hn1,hcell,hsl,o4⟩:=o3.cons;injection hv with e1 e2 e3
   subst e1 e2 e3;obtain⟨k',l4,h4,hk',hr16,ans,hcase⟩:=HRUN.frame k t b a c f r m3 h3 j3;have HKK:Hid (∃ty ta e2 tp,Fr f ty ta e2 tp/\(ty=2054/\Cm K J k' t b a c r m3 h4 l4∨(ty=2048/\e2=0/\tp=67/\(m3.addr=0/\Cm K J k' t b a c r m3 h4 l4∨m3.addr≠0/\(b+n/8*7<=t↔ta=4294967295)/\b+n/2<=t/\(a+1<=A->J k' t b (a+1) c r m3 h4)/\(A<a+1->Cm K J k' t t 0 c r m3 h4 l4)))∨(ty=2048/\e2=0/\tp≠67/\((c+1)%3≠0->J k' t b a (c+1) r m3 h4)/\((c+1)%3=0->Cm K J k' t b a (c+1) r m3 h4 l4)))):=M0 (by
    rcases hcase with⟨⟨ta,e2,tp,x1⟩,x2⟩|⟨ta,x1,x2⟩|⟨⟨ta,tp,x0,x1⟩,x2⟩
    ·exact⟨_,_,_,_,x1,bo1 ⟨rfl,x2⟩⟩
    ·exact⟨_,_,_,_,x1,bo3 (bo1 ⟨rfl,rfl,rfl,x2⟩)⟩
    exact⟨_,_,_,_,x1,bo3 (bo3 ⟨rfl,rfl,x0,x2⟩)⟩)
   have HAN:=M0 (ans wq H a3.ho (HCC _ a3.bl) (bo6 a3.ng a3.uh));have HA3:=M0 a3;have HO4:=M0 o4;have hpos:(0:Int)<(n2:Int):=bb8 hn1;have HN1:=M0 hn1;clear j3 a3 o3 o4 HS hq ans hcase hn1;go_upto_region 17 with fail;clear hpos hcell;go_wp2_with fail;refine HAN.mono ?_;rintro ee u4 ⟨ao4,cp4,rfl,ho4,at4,t4⟩;have HA4:=M0 (HA3.host t4 at4);have HOO:=M0 (HO4.host HA3 t4);have HOL:Hid (Ou w.heap.size u4 B m3 (.slice ao4 l4.length cp4) l4):=M0 (Ou.own rfl HA3.bl.size ho4 (fun j hj hf=>by have:=HA3.bx.mx.ik hf;omega));clear HAN HA3 HO4 ho4 at4 t4 hsl;obtain⟨ty,ta,e2,tp,⟨x0,x1,x2,x3,x4,x5,x6,x7,x8,x9,x10,x11,e0,L,id,ttl,pr,fr,e1',L2,fp,L3,R1,R2,R3⟩,hcs⟩:=gB HKK;have HR1:=M0 R1;have HR2:=M0 R2;have HR3:=M0 R3;have HCS:=M0 hcs;clear R1 R2 R3 hcs HKK;go_wp2_with fail;refine on_ (HR1 _) fun u5 hb5=>?_;have HA5:=M0 (HA4.below hb5);have HOO5:=M0 (HOO.below hb5);have HOL5:=M0 (HOL.below hb5);clear HR1 hb5 HA4 HOO HOL;go_wp2_with fail;obtain⟨X5,hX5⟩:=ex_ u5.heap.size;obtain⟨V5,hV5⟩:=ex_ (u5.alloc (.cells (rF x0 x1 x2 x3 x4 x5 x6 x7 x8 x9 x10 x11 ty L) 55));have HX5:Hid (V5.heap[X5]?=some (.cells (rF x0 x1 x2 x3 x4 x5 x6 x7 x8 x9 x10 x11 ty L) 55 (0,0))):=M0 (by rw[hV5,hX5];exact bn3 u5 _);have HB5:Hid (gm u5.heap.size u5 V5):=M0 (by rw[hV5];exact(bn9 _ _).alloc (bn7 _) _);have HA6:=M0 (HA5.below HB5);have HOO6:=M0 (HOO5.below HB5);have HOL6:=M0 (HOL5.below HB5);rw[<-hV5,<-hX5];clear hV5 hX5 HA5 HOO5 HOL5 HB5;refine on_ (HR2 _) fun u6 hb6=>?_;have HA7:=M0 (HA6.below hb6);have HOO7:=M0 (HOO6.below hb6);have HOL7:=M0 (HOL6.below hb6);have HX7:=M0 ((hb6.block _ (gG HX5)).trans HX5);clear HR2 hb6 HA6 HOO6 HOL6 HX5;go_wp2_with fail;obtain⟨X6,hX6⟩:=ex_ u6.heap.size;obtain⟨V6,hV6⟩:=ex_ (u6.alloc (.cells (rU id ttl pr fr ta L2) 59));have HP6:Hid (V6.heap[X6]?=some (.cells (rU id ttl pr fr ta L2) 59 (0,0))):=M0 (by rw[hV6,hX6];exact bn3 u6 _);have HB6:Hid (gm u6.heap.size u6 V6):=M0 (by rw[hV6];exact(bn9 _ _).alloc (bn7 _) _);have HA8:=M0 (HA7.below HB6);have HOO8:=M0 (HOO7.below HB6);have HOL8:=M0 (HOL7.below HB6);have HX8:=M0 ((HB6.block _ (gG HX7)).trans HX7);rw[<-hV6,<-hX6];clear hV6 hX6 HA7 HOO7 HOL7 HX7 HB6;refine on_ (HR3 _) fun u7 hb7=>?_;have HA9:=M0 (HA8.below hb7);have HOO9:=M0 (HOO8.below hb7);have HOL9:=M0 (HOL8.below hb7);have HX9:=M0 ((hb7.block _ (gG HX8)).trans HX8);have HP9:=M0 ((hb7.block _ (gG HP6)).trans HP6);clear HR3 hb7 HA8 HOO8 HOL8 HX8 HP6;go_upto_region 24 with fail;obtain⟨X7,hX7⟩:=ex_ u7.heap.size;obtain⟨V7,hV7⟩:=ex_ (u7.alloc (.cells (rI fp tp L3) 69));have HU7:Hid (V7.heap[X7]?=some (.cells (rI fp tp L3) 69 (0,0))):=M0 (by rw[hV7,hX7];exact bn3 u7 _);have HB7:Hid (gm u7.heap.size u7 V7):=M0 (by rw[hV7];exact(bn9 _ _).alloc (bn7 _) _);have HAV:=M0 (HA9.below HB7);have HOV:=M0 (HOO9.below HB7);have HLV:=M0 (HOL9.below HB7);have HXV:=M0 ((HB7.block _ (gG HX9)).trans HX9);have HPV:=M0 ((HB7.block _ (gG HP9)).trans HP9);rw[<-hV7,<-hX7];clear hV7 hX7 HA9 HOO9 HOL9 HX9 HP9 HB7;go_cut [116] (fun v wc=>∃bb,v=.bool bb/\Hid (bb=true↔(ty=2048/\e2=0/\tp=67/\m3.addr≠0))/\Hid (gm V7.heap.size V7 wc));case first=>
    have cx:V7.cell? (a_ X5 12)=some (.int .u16 ty):=bn0 _ _ 12 _ _ _ HXV;have cu:V7.cell? (a_ X7 1)=some (.int .u16 tp):=bn0 _ _ 1 _ _ _ HU7
    rcases gB HCS with⟨z1,_⟩|⟨z1,z2,z3,_⟩|⟨z1,z2,z3,_⟩
    ·have HE:Hid (false=true↔(ty=2048/\e2=0/\tp=67/\m3.addr≠0)):=M0 ⟨fun q=>(by cases q),fun q=>absurd (z1.symm.trans q.1) (by decide)⟩
     rw[z1]at cx;clear HAV HOV HLV HXV HPV HU7 HCS z1;go_wp2;go_meet;exact⟨false,rfl,HE,M0 (by first|exact below_drewN (bn9 _ _) _|exact bn9 _ _)⟩
    ·have HE:Hid ((m3.addr !=0)=true↔(ty=2048/\e2=0/\tp=67/\m3.addr≠0)):=M0 ⟨fun q=>⟨z1,z2,z3,(by simpa using q)⟩,fun q=>(by simpa using q.2.2.2)⟩
     have HLK:=M0 (DC HAV.bx);have e2b:(e2==0)=true:=Ld z2;rw[z1]at cx;rw[z3]at cu;clear HAV HOV HLV HXV HPV HU7 HCS z1 z2 z3;go_wp2_with fail;refine on_ HLK fun u8 hb8=>?_;have HB8:=M0 hb8;have hfl:=fun u=>aZ7 m3.now m3.st m3.phase m3.addr m3.boots m3.ql.length m3.lost m3.cached u;clear hb8 HLK cx cu;go_wp2;go_meet;exact⟨_,rfl,HE,HB8⟩
    have htp:(tp==67)=false:=Bd z3;have HE:Hid (false=true↔(ty=2048/\e2=0/\tp=67/\m3.addr≠0)):=M0 ⟨fun q=>(by cases q),fun q=>absurd q.2.2.1 z3⟩;have e2b:(e2==0)=true:=Ld z2;rw[z1]at cx;clear HAV HOV HLV HXV HPV HU7 HCS z1 z2 z3;go_wp2;go_meet;exact⟨false,rfl,HE,M0 (by first|exact below_drewN (bn9 _ _) _|exact bn9 _ _)⟩
   obtain⟨bb,rfl,HBB,HBW⟩:=hcut;rename fV=>wc;have HAW:=M0 (HAV.below HBW);have HOW:=M0 (HOV.below HBW);have HLW:=M0 (HLV.below HBW);have HXW:=M0 ((HBW.block _ (gG HXV)).trans HXV);have HPW:=M0 ((HBW.block _ (gG HPV)).trans HPV);have HUW:=M0 ((HBW.block _ (gG HU7)).trans HU7);clear HAV HOV HLV HXV HPV HU7 HBW;go_upto_if 116 with fail;go_cut [9,10,11] (fun vb va vc wz=>∃b' a' c':Nat,vb=.int .i64 b'/\va=.int .i64 a'/\vc=.int .i64 c'/\Hid (b'<=t/\a'+k'<=10*t/\c'+k'<=10*t)/\Hid (Cm K J k' t b' a' c' r m3 h4 l4)/\Hid (gm wc.heap.size wc wz));case first=>
    cases bb with
    |true=>
     obtain⟨z1,z2,z3,z4⟩:=HBB.1 rfl;have cp4':wc.cell? (a_ X6 4)=some (.int .u32 ta):=bn0 _ _ 4 _ _ _ HPW;have HD2:Hid ((b+n/8*7<=t↔ta=4294967295)/\b+n/2<=t/\(a+1<=A->J k' t b (a+1) c r m3 h4)/\(A<a+1->Cm K J k' t t 0 c r m3 h4 l4)):=M0 (by
      rcases gB HCS with⟨y1,_⟩|⟨_,_,_,⟨y,_⟩|y⟩|⟨_,_,y3,_⟩
      ·exact absurd (y1.symm.trans z1) (by decide)
      ·exact absurd y z4
      ·exact y.2
      exact absurd z3 y3)
     have f2:=i_h HD2.2.1;have f1:(ta==4294967295)=decide ((b:Int)+(n:Int)/8*7<=(t:Int)):=by
      by_cases hta:ta=4294967295
      ·rw[Ld hta,decide_eq_true (bd3 (HD2.1.2 hta))]
      rw[Bd hta,decide_eq_false (bd6 (fun q=>hta (HD2.1.1 q)))]
     obtain⟨dv,hdv⟩:=ex_ (decide ((b:Int)+(n:Int)/8*7<=(t:Int)));rw[<-hdv]at f1;replace hdv:=hdv.symm
     by_cases haA:a+1<=A
     ·have f3:=bd1 haA
      have HJ:=M0 (HD2.2.2.1 haA);clear z1 z2 z3 z4 HD2 HCS;go_wp2_with fail;refine on_ (HPA _) fun u9 hu9=>?_;replace hu9:=hu9.symm
      subst hu9;go_wp2;go_roundg (k'+1)
      case measure=>exact ba0 hk hk'
      exact⟨b,a+1,c,k',r.length,some (a_ g2 o2),c2,rfl,rfl,rfl,rfl,rfl,hbt,(ao9 hat hk').1,(ao9 hct hk').2,M0 ⟨m3,h4,r,rfl,HJ,HAW,HOW⟩⟩
     have f3:=bb9 haA;have HJ:=M0 (HD2.2.2.2 (Nat.lt_of_not_le haA));clear z1 z2 z3 z4 HD2 HCS;go_wp2_with fail;refine on_ (HPA _) fun u9 hu9=>?_;replace hu9:=hu9.symm
     subst hu9;go_wp2;go_meet;exact⟨t,0,c,rfl,rfl,rfl,M0 ⟨bn7 _,n_z hat hk',(ao9 hct hk').2⟩,HJ,M0 (bn9 _ _)⟩
    |false=>
     have cx:wc.cell? (a_ X5 12)=some (.int .u16 ty):=bn0 _ _ 12 _ _ _ HXW;have cu:wc.cell? (a_ X7 1)=some (.int .u16 tp):=bn0 _ _ 1 _ _ _ HUW
     rcases gB HCS with⟨z1,y⟩|⟨z1,z2,z3,⟨_,y⟩|⟨y0,_⟩⟩|⟨z1,z2,z3,y⟩
     ·rw[z1]at cx
      have HY:=M0 y;clear z1 y HCS;go_wp2;go_meet;exact⟨b,a,c,rfl,rfl,rfl,M0 ⟨hbt,(ao9 hat hk').2,(ao9 hct hk').2⟩,HY,M0 (bn9 _ _)⟩
     ·rw[z1]at cx
      rw[z3]at cu;have e2b:(e2==0)=true:=Ld z2;have HY:=M0 y;clear z1 z2 z3 y HCS;go_wp2;go_meet;exact⟨b,a,c,rfl,rfl,rfl,M0 ⟨hbt,(ao9 hat hk').2,(ao9 hct hk').2⟩,HY,M0 (bn9 _ _)⟩
     ·exact absurd (HBB.2 ⟨z1,z2,z3,y0⟩) (by decide)
     rw[z1]at cx;have htp:=Bd z3;have e2b:(e2==0)=true:=Ld z2;have HY:=M0 y;clear z1 z2 z3 y HCS
     by_cases h3c:(c+1)%3=0
     ·have e3:=bd2 h3c
      have HJ:=M0 (HY.2 h3c);clear HY h3c;go_wp2;go_meet;exact⟨b,a,c+1,rfl,rfl,rfl,M0 ⟨hbt,(ao9 hat hk').2,(ao9 hct hk').1⟩,HJ,M0 (bn9 _ _)⟩
     have e3:=bd0 h3c;have HJ:=M0 (HY.1 h3c);clear HY h3c;go_wp2;go_roundg (k'+1)
     case measure=>exact ba0 hk hk'
     exact⟨b,a,c+1,k',r.length,some (a_ g2 o2),c2,rfl,rfl,rfl,rfl,rfl,hbt,(ao9 hat hk').2,(ao9 hct hk').1,M0 ⟨m3,h4,r,rfl,HJ,HAW,HOW⟩⟩
   obtain⟨b',a',c',rfl,rfl,rfl,HBD,HCM,HBZ⟩:=hcut;rename fV=>wz;have HAZ:=M0 (HAW.below HBZ);have HOZ:=M0 (HOW.below HBZ);have HLZ:=M0 (HLW.below HBZ);clear HAW HOW HLW HXW HPW HUW HBZ HBB HCS
   rcases gB HCM with⟨e,hJ⟩|⟨x,e,hxs,hcq,hP⟩
   ·have HJ:=M0 hJ
    subst e;clear hJ HCM;go_wp2;refine br4 1 ?_;rw[bp5];go_wp2;go_roundg (k'+1)
    case measure=>exact ba0 hk hk'
    exact⟨b',a',c',k',r.length,some (a_ g2 o2),c2,rfl,rfl,rfl,rfl,rfl,HBD.1,HBD.2.1,HBD.2.2,M0 ⟨m3,h4,r,rfl,HJ,HAZ,HOZ⟩⟩
   subst e;obtain⟨gl,ol,n5,cl,g5,o5,c5,hv5,hn5,hc5,_,_⟩:=HLZ.cons;injection hv5 with y1 y2 y3
   subst y1 y3;have HP:=M0 hP;have HLK:=M0 (DC HAZ.bx);have hfl:=fun u=>aW0 m3.now m3.st m3.phase m3.addr m3.boots m3.ql.length m3.lost m3.cached u;clear hP HCM y2 hn5 HLZ;go_wp2;refine br4 2 ?_;rw[bp5];go_wp2_with fail;refine on_ HLK fun u8 hb8=>?_;have HA8:=M0 (HAZ.below hb8);have HO8:=M0 (HOZ.below hb8);have HPUT:=M0 (yw HA8.bx x (bo6 hxs (by decide)));clear HLK hb8 HAZ HOZ hc5;go_wp2_with fail;refine on_ HPUT fun u9 hu9=>?_;have HA9:=M0 (HA8.af6 hu9);have HO9:=M0 (HO8.af6 hu9);have HPO:=M0 (HP u9 Q B HA9.bx (HRR _ _ _ _ _ _ HA9));clear HPUT hu9 HA8 HO8 HP;go_wp2_with fail;refine on_ HPO ?_;rintro u10 ⟨mz,hz,hu10⟩;have HA10:=M0 (HA9.af6 hu10);have HO10:=M0 (HO9.af6 hu10);have HZ:=M0 hz;clear HPO hu10 HA9 HO9 hz;go_upto_region 40 with fail;go_cut [181] (fun v wc=>∃bb,v=.bool bb/\Hid (bb=true↔(m3.st=2/\mz.st=3))/\Hid (gm u10.heap.size u10 wc));case first=>
    by_cases s2:m3.st=2
    ·have s2b:=Ld s2
     have HEQ:=M0 (eq3 m3 mz s2);have HLK:=M0 (DC HA10.bx);have hfl2:=fun u=>aW0 mz.now mz.st mz.phase mz.addr mz.boots mz.ql.length mz.lost mz.cached u;clear s2;go_wp2_with fail;refine on_ HLK fun u11 hb11=>?_;have HB11:=M0 hb11;clear hb11 HLK;go_wp2;go_meet;exact⟨_,rfl,HEQ,HB11⟩
    have s2b:=Bd s2;have HEQ:Hid (false=true↔(m3.st=2/\mz.st=3)):=M0 ⟨fun q=>(by cases q),fun q=>absurd q.1 s2⟩;clear s2;go_wp2;go_meet;exact⟨_,rfl,HEQ,M0 (bn9 _ _)⟩
   obtain⟨bb2,rfl,HBB2,HBX⟩:=hcut;rename fV=>wx;have HAX:=M0 (HA10.below HBX);have HOX:=M0 (HO10.below HBX);clear HA10 HO10 HBX;go_upto_if 181 with fail;go_cut [9,10] (fun vb va wy=>∃b2 a2:Nat,vb=.int .i64 b2/\va=.int .i64 a2/\Hid (b2<=t/\a2+k'<=10*t)/\Hid (J k' t b2 a2 c' (r++mz.gq) mz.taken h4)/\Hid (wx=wy));case first=>
    cases bb2 with
    |true=>
     have HJ:Hid (J k' t t 0 c' (r++mz.gq) mz.taken h4):=M0 (by
      rcases gB HZ with⟨_,_,q⟩|⟨q,_⟩
      ·exact q
      exact absurd (HBB2.1 rfl) q)
     clear HZ HBB2;go_wp2;go_meet;exact⟨t,0,rfl,rfl,M0 ⟨bn7 _,n_z hat hk'⟩,HJ,M0 rfl⟩
    |false=>
     have HJ:Hid (J k' t b' a' c' (r++mz.gq) mz.taken h4):=M0 (by
      rcases gB HZ with⟨q1,q2,_⟩|⟨_,q⟩
      ·exact absurd (HBB2.2 ⟨q1,q2⟩) (by decide)
      exact q)
     clear HZ HBB2;go_wp2;go_meet;exact⟨b',a',rfl,rfl,M0 ⟨HBD.1,HBD.2.1⟩,HJ,M0 rfl⟩
   obtain⟨b2,a2,rfl,rfl,HBD2,HJ,HWY⟩:=hcut;obtain rfl:=gB HWY;have HTK:=M0 (Z4 HAX.bx);have HG16:Hid (mz.gq.length<=16):=M0 (bo6 HAX.bx.mx.goes.2.2.2.1 HAX.bx.mx.goes.2.1);obtain⟨n7,hn7⟩:=ex_ mz.gq.length;have HN7:=M0 hn7;rw[<-hn7]at HTK;clear hn7 HWY HZ HBB2;go_wp2_with fail;refine HTK.mono ?_;rintro ee u12 ⟨ao7,cp7,rfl,ho7,hb7⟩;have HA12:=M0 (HAX.af6 hb7);have HO12:=M0 (HOX.af6 hb7);have HT12:Hid (Ou w.heap.size u12 B mz.taken (.slice ao7 n7 cp7) mz.gq):=M0 (Ou.own HN7 HAX.bl.size ho7 (fun j hj hf=>bu3 _ (bo9 (HAX.bx.mx.ik ((Q_ mz mz.gq.length j).1 hf)) hj)));clear HTK ho7 hb7 HAX HOX;go_wp2_with (at_builtin;refine aV5 rfl (.tmp 183) (.tmp 185) rfl HA12 rfl r mz.gq g2 o2 r.length c2 rfl rfl HO12 ao7 n7 cp7 rfl HN7 HT12 (bb5 hr16 HG16) ?_;intro ao8 n8 cp8 u13 hn8 hal8 hou8;have HA13:=M0 hal8;have HO13:=M0 hou8;have HN8:=M0 hn8;clear hal8 hou8 hn8);clear HA12 HO12 HT12;go_wp2;rw[bp5];go_wp2;go_roundg (k'+1)
   case measure=>exact ba0 hk hk'
   exact⟨b2,a2,c',k',n8,ao8,cp8,rfl,rfl,rfl,rfl,rfl,HBD2.1,HBD2.2,HBD.2.2,M0 ⟨mz.taken,h4,r++mz.gq,HN8,HJ,HA13,HO13⟩⟩
end Ho
namespace Ho
open Bs Js
theorem dgR:dg 3000=[51,48,48,48]:=by
 rw[dg2 3000 (by decide),dg2 (3000/10) (by decide),dg2 (3000/10/10) (by decide),dg1 (3000/10/10/10) (by decide)];rfl
theorem itR:Lib.itoa 3000=[51,48,48,48]:=by decide+kernel
theorem bc9:Xa ⟨(dg 3000).toArray⟩ 3000:=by
 rw[dgR];exact⟨by decide,by decide+kernel,by rw[itR],by decide⟩
theorem ba9:aB1 1 3000 where
 w:=by decide
 z:=by decide
 rk:=by rw[vk];decide+kernel
 nb:=by rw[vk];decide+kernel
 nw:=by rw[vk];decide+kernel
 fz:=by rw[vk];decide+kernel
 i1:=bc9
 i2:=aL7
 i3:=bm6
 ok:=by rw[dgR,dg8,bm2];decide+kernel
theorem aY3(l:List UInt8):l=(⟨l.toArray⟩:ByteArray).data.toList:=rfl
theorem aT4(K:Nat->Nat)(w:fV)(hng:4<=w.heap.size)(hgl:Gl w)(hcd:NA w)(hG:Hs.RG w 3 K)(hK:∀j,K j<4294967296)(tb:Tb w)
  (tm an:Int) (htm: -9223372036854775808<=tm/\tm<=9223372036854775807) (han: -9223372036854775808<=an/\an<=9223372036854775807):
  f_ Vh 6 #[.int .i64 tm,.int .i64 an] w fun ee w'=>ee=.returned (.bool true)/\gm w.heap.size w w':=by
 have h1:=Sp.gy tm 2000 (by decide);have h2:=Sp.gy an 5 (by decide);have hs:(ay 3000 1).length=3000:=G9 _ _;have hi:(⟨(ay 3000 1).toArray⟩:ByteArray).size=3000:=by rw[strSize,hs]
 refine aS6 hng hgl hcd hG hK tb tm an htm han ((16:Int)+Sp.l6 tm 2000).toNat (Sp.l6 an 5).toNat (by omega) (by omega) _ _ (aZ3 (s:=ay 3000 1) (img:=⟨(ay 3000 1).toArray⟩) (by omega) hs (aY3 _) hi (by rw[hi];exact ba9)) (fun m i=> ?_);exact⟨0,rfl,⟨rfl,rfl,rfl,rfl,z0 _ (by decide)⟩,bn7 _,bo1 ⟨⟨i.cf,i.st,i.gq,i.cd,i.ph,i.now,i.img⟩,0,by simp,ah _,by show(0:Int)<=_;decide⟩⟩
end Ho
end Go.Proofs.YtdgacidndknceaaGreatDoor
