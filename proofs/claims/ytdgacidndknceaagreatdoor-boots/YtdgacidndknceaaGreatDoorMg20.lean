import Derived.Test.YtdgacidndknceaaGreatDoorMg14
import Derived.Test.YtdgacidndknceaaGreatDoorMg17
import Derived.Test.YtdgacidndknceaaGreatDoorMg19
import Derived.Deep.Slices
import Derived.SizedLaws
set_option linter.all false
set_option maxHeartbeats 8000000
set_option maxRecDepth 100000
open Go.ChangeShapes Go.WideShapes Go.ChangeAt Go.RowKit
open Go renaming World → fV, Calls → f_
open Go.RowKit renaming Below → gm
open Go.Proofs.Tryz renaming prog → Vh
open Go.Proofs.Tryz
namespace Go.Proofs.YtdgacidndknceaaGreatDoor
namespace Js
open Bs
variable{w0:fV} {P:Nat→Prop} {w w':fV} {B:Nat} {m m':Mc}
theorem aV6(n:Nb)(now:Int)(b:Bool)(hb:decide (n.till<=now)=b)(w:fV):f_ Vh 132 #[n.v,.int .i64 now] w fun ee w'=>ee=.returned (.bool b)/\gm w.heap.size w w':=by
 subst hb;unfold Nb.v;go_enter func132,ntmps132;go_wp2;go_ret;exact⟨rfl,(bn9 _ _).alloc (bn7 _) _⟩
theorem aT0(n:Nb)(h0:n.asks=0)(now:Int)(b:Bool)(hb:decide (n.till<=now)=b)(w:fV):f_ Vh 131 #[n.v,.int .i64 now] w fun ee w'=>ee=.returned (.bool b)/\gm w.heap.size w w':=by
 have HU:=Fe (fun u=>aV6 n now b hb u);have HK:=Fe (fun u=>af8 n u);rw[h0]at HK;unfold Nb.v at HU HK ⊢;have HA:=Fe (bn3 w (.cells (rM n.asks n.k0.toNat n.k1.toNat n.k2.toNat n.k3.toNat n.k4.toNat n.k5.toNat n.till n.load) 157 (0,0)));rw[h0]at HU HA ⊢;clear hb;go_enter func131,ntmps131;go_wp2_with fail;refine on_ (HU _) fun u hu=>?_;have hr:=(hu.block w.heap.size (by simp)).trans HA;obtain⟨c0,c1,c2,c3,c4,c5,c6,c7,c8⟩:=nine hr;have HB:=Fe (b1_.trans (hu.mono (by simp)));clear hu
 cases b with
 |false=>
  go_wp2;go_ret;exact⟨rfl,HB⟩
 |true=>
  go_wp2_with fail;rw[h0]at HK;refine on_ (HK _) fun u2 hu2=>?_;have hwu:w.heap.size<=u.heap.size:=HB.size;have HB2:=Fe (HB.trans (hu2.mono hwu));clear hu2 c0 c1 c2 c3 c4 c5 c6 c7 c8;go_wp2;go_ret;exact⟨rfl,HB2⟩
abbrev ak(x:Nb):DataW Unit:=.map [(.int .u32 167772161,x.d)]
theorem aY1{Q:Nb->Prop}(x:Nb)(h:Q x):Cd Q (ak x):=by
 intro a ha;have e:a=167772161:=by
  by_cases e:(Lit.int .u32 a)=.int .u32 167772161
  ·injection e
  rw[Maps.has_eq]at ha;simp only[bz2,aj,bE2]at ha;rw[Maps.sameKey_ne (Ne.symm e)]at ha
  cases ha
 subst e;exact⟨x,rfl,h⟩
theorem one_has(x:Nb)(a:Int)(ha:Maps.has (ak x) (.int .u32 a)=true):a=167772161:=by
 by_cases e:(Lit.int .u32 a)=.int .u32 167772161
 ·injection e
 rw[Maps.has_eq]at ha;simp only[bz2,aj,bE2]at ha;rw[Maps.sameKey_ne (Ne.symm e)]at ha
 cases ha
theorem aU8{bm:Nat}(now:Int)(x:Nb)(h0:x.asks=0)(hown:w.ownsMap Vh 36 Qz bm 4 (ak x)):
  f_ Vh 83 #[.map (some bm),.int .i64 now] w fun ee w'=>ee=.returned (.tuple #[])/\∃D',(D'=ak x/\now<x.till∨D'=.map []/\x.till<=now)/\w'.ownsMap Vh 36 Qz bm 4 D'/\PU w w' bm:=by
 obtain⟨Q,hQ⟩:∃Q:Nb->Prop,Q=fun n=>n.asks=0/\n.till=x.till:=⟨_,rfl⟩;have HC1:Hid (Cd Q (ak x)):=Fe (by rw[hQ];exact aY1 x ⟨h0,rfl⟩);have HC0:Hid (Cd Q (.map [])):=Fe (Cd.nil _);have hlt:=JA hown;have HG:Hid (∀n u,Q n->f_ Vh 131 #[n.v,.int .i64 now] u fun ee w'=>ee=.returned (.bool (decide (x.till<=now)))/\gm u.heap.size u w'):=Fe (fun n u hq=>by
  rw[hQ]at hq
  exact aT0 n hq.1 now _ (by rw[hq.2]) u)
 unfold Nb.v at HG;obtain⟨gb,hgb⟩:=ex_ (decide (x.till<=now));rw[<-hgb]at HG;obtain⟨D,hD⟩:=ex_ (ak x);rw[<-hD]at hown HC1;clear hQ h0;go_enter func83,ntmps83;go_wp2_with (first|(at_range;refine Cf _ rfl _ 102 rfl 36 157 (bu6 bt8) bu1 Qz bm 4 D rfl hown ?_;intro w1 hrg1 hg1 hs1)|go_in);go_frame
 go_loopw [] (fun wr=>∃(left:Lit->Bool) (cnt:Nat) (D':DataW Unit),wr.ranges Vh 36 Qz bm w.heap.size 4 D' left cnt/\Hid (D'=D/\(left (.int .u32 167772161)=true∨now<x.till)∨D'=.map []/\x.till<=now)/\Hid (PU w wr bm)) (fun wr=>wr.rangeLeft bm w.heap.size)
 case atStart=>exact⟨_,_,_,hrg1,Fe (bo1 ⟨rfl,bo1 (by rw[hD];rfl)⟩),Fe ((PU.refl w bm).grown hg1 (by simp))⟩
 obtain⟨left,cnt,D',hrg,HD,HT⟩:=hrel;rename fV=>wr;have hm0:=hrg.left_eq;have HCd:Hid (Cd Q D'):=Fe (by
  rcases gB HD with⟨e,_⟩|⟨e,_⟩
  ·rw[e];exact HC1
  rw[e];exact HC0)
 go_wp2_with (first|(at_next;refine aN (Q:=Q) rfl _ rfl bm w.heap.size 4 D' left cnt HCd rfl hrg ?_ ?_)|go_in)
 ·intro hc0 hl0
  have HE:Hid (D'=ak x/\now<x.till∨D'=.map []/\x.till<=now):=Fe (by
   rcases gB HD with⟨e,e2|e2⟩|e
   ·rw[hl0]at e2;cases e2
   ·exact bo1 ⟨e.trans hD,e2⟩
   exact bo3 e)
  go_wp2;go_end0;exact⟨rfl,D',HE,hrg.owns,HT⟩
 intro y c w2 cnt2 hy1 hy2 hly hhy hq hcy hrg2 hlt2 hg2 hs2 hen;have HDD:Hid (D'=D/\y=167772161):=Fe (by
  rcases gB HD with⟨e,_⟩|⟨e,_⟩
  ·rw[e,hD]at hhy;exact⟨e,one_has x y hhy⟩
  rw[e]at hhy;cases hhy)
 have HQ:=Fe hq;clear hhy hly hcy hq;have hwl:w.heap.size<=wr.heap.size:=HT.size;have HT2:=Fe ((HT.grown hg2 (fun k e=>by cases e;exact bo1 (bn7 _))).grown (World.grownBy_alloc w2 (.cells (rM c.asks c.k0.toNat c.k1.toNat c.k2.toNat c.k3.toNat c.k4.toNat c.k5.toNat c.till c.load) 157 (0,0)) none) (by simp));have HR2:=Fe (hrg2.alloc (.cells (rM c.asks c.k0.toNat c.k1.toNat c.k2.toNat c.k3.toNat c.k4.toNat c.k5.toNat c.till c.load) 157 (0,0)));have hyk:=aG2 y ⟨hy1,hy2⟩;clear hrg hrg2 HT
 cases gb with
 |true=>
  have hup:x.till<=now:=bA1 hgb.symm;clear hgb;go_wp2_with (first|(go_at_call 131;refine(HG c _ HQ).mono ?_;rintro ee u ⟨rfl,hu⟩;have hrg3:=HR2.kept (aK hu) (by simp) (by simp);have HT3:=Fe (HT2.grown (aK hu) (by simp));clear hu)|(at_delete;refine wpList_delete_ranges _ rfl _ _ 102 36 rfl 157 (bu6 bt8) bu1 Qz bm w.heap.size 4 D' _ _ rfl hrg3 _ _ rfl hyk ?_;intro w3 cnt3 hrg4 hle hturn)|go_in);go_frame
  go_roundw
  case rel=>exact⟨_,cnt3,_,hrg4,Fe (bo3 ⟨by rw[HDD.1,HDD.2,hD];rfl,hup⟩),Fe (HT3.grown hturn.grown (fun k e=>by cases e;exact bo3 rfl))⟩
  rw[hrg4.left_eq,hm0];omega
 |false=>
  have hup: ¬x.till<=now:=of_decide_eq_false hgb.symm;clear hgb;go_wp2_with (first|(go_at_call 131;refine(HG c _ HQ).mono ?_;rintro ee u ⟨rfl,hu⟩;have hrg3:=HR2.kept (aK hu) (by simp) (by simp);have HT3:=Fe (HT2.grown (aK hu) (by simp));clear hu)|go_in);go_roundw
  case rel=>exact⟨_,cnt2,_,hrg3,Fe (bo1 ⟨HDD.1,bo3 (by omega)⟩),HT3⟩
  rw[hrg3.left_eq,hm0];exact hlt2
theorem aX3{bm:Nat}{D:DataW Unit}(now:Int)(hown:w.ownsMap Vh 36 Qz bm 4 D)(hC:Cd (fun n=>now<n.till) D):
  f_ Vh 84 #[.map (some bm),.int .i64 now] w fun ee w'=>ee=.returned (.slice none 0 0)/\gm w.heap.size w w':=by
 have HC:=Fe hC;have hsz:=hown.size_le;have hlt:=JA hown;have HG:Hid (∀(n:Nb) u,now<n.till->f_ Vh 132 #[n.v,.int .i64 now] u fun ee w'=>ee=.returned (.bool false)/\gm u.heap.size u w'):=Fe (fun n u hq=>aV6 n now false (by rw[bw2];omega) u);unfold Nb.v at HG;clear hC;go_enter func84,ntmps84;go_wp2_with (first|(at_range;refine Cf _ rfl _ 102 rfl 36 157 (bu6 bt8) bu1 Qz bm 4 D rfl hown ?_;intro w1 hrg1 hg1 hs1)|go_in);go_frame
 go_loopw [5] (fun v wr=>∃(left:Lit->Bool) (cnt:Nat),v=.slice none 0 0/\wr.ranges Vh 36 Qz bm w.heap.size 4 D left cnt/\Hid (gm w.heap.size w wr)) (fun _ wr=>wr.rangeLeft bm w.heap.size)
 case atStart=>exact⟨_,_,rfl,hrg1,Fe (aG (bn9 _ _) hg1 (bn7 _))⟩
 obtain⟨left,cnt,rfl,hrg,HB⟩:=hrel;have hm0:=hrg.left_eq;go_wp2_with (first|(at_next;refine aN (Q:=fun n=>now<n.till) rfl _ rfl bm w.heap.size 4 D left cnt HC rfl hrg ?_ ?_)|go_in)
 ·intro hc0 hl0
  have HS:=Fe (fun u=>Nf u);clear hl0 hm0 hrg1 hown hg1 hs1;go_wp2_with fail;refine(HS _).mono ?_;rintro ee u ⟨rfl,rfl⟩;clear hrg;go_wp2;go_ret;exact⟨rfl,HB⟩
 intro y c w2 cnt2 hy1 hy2 hly hhy hq hcy hrg2 hlt2 hg2 hs2 hen;have HQ:=Fe hq;clear hhy hly hq hcy;have hwl:w.heap.size<=wr.heap.size:=HB.size;have HB2:=Fe ((jh HB hg2 hwl (bn7 _)).alloc (by omega) (.cells (rM c.asks c.k0.toNat c.k1.toNat c.k2.toNat c.k3.toNat c.k4.toNat c.k5.toNat c.till c.load) 157 (0,0)));have HR2:=Fe (hrg2.alloc (.cells (rM c.asks c.k0.toNat c.k1.toNat c.k2.toNat c.k3.toNat c.k4.toNat c.k5.toNat c.till c.load) 157 (0,0)));clear hrg hrg2 HB;go_wp2_with fail;refine on_ (HG c _ HQ) fun u hu=>?_;have hrg3:=HR2.kept (aK hu) (by simp) (by simp);have HB3:=Fe (HB2.trans (hu.mono HB2.size));clear hu HR2 HB2 hen hg2;go_wp2;go_roundw
 case rel=>exact⟨_,cnt2,rfl,hrg3,HB3⟩
 rw[hrg3.left_eq,hm0];exact hlt2
theorem aS0(h:Mx w0 P w B m)(x:Nb)(h0:x.asks=0)(hcd:m.cd=ak x):f_ Vh 49 #[p_ B] w fun ee w'=>ee=.returned (.tuple #[])/\∃mz,(mz=m/\m.now<x.till∨mz=m.bQ8 (.map [])/\x.till<=m.now)/\Mx w0 P w' B mz:=by
 have HM:=Fe h;have c0:=h.c0;have c14:=h.c14;clear h;have HF:Hid (∀u,Mx w0 P u B m->f_ Vh 83 #[.map (some m.bm),.int .i64 m.now] u fun ee w'=>ee=.returned (.tuple #[])/\∃D,((D=ak x/\m.now<x.till∨D=.map []/\x.till<=m.now)/\Cd (fun n=>m.now<n.till) D)/\Mx w0 P w' B (m.bQ8 D)):=Fe (fun u hu=>(aU8 m.now x h0 (by have q:=hu.map;rw[hcd]at q;exact q)).mono (by
  rintro ee u2 ⟨rfl,D,h1,h2,h3⟩
  refine⟨rfl,D,⟨h1,?_⟩,hu.mapped h3 h2⟩
  rcases h1 with⟨rfl,q⟩|⟨rfl,q⟩
  ·exact aY1 x q
  exact Cd.nil _))
 have HE:Hid (∀D,(D=ak x/\m.now<x.till∨D=.map []/\x.till<=m.now)->(m.bQ8 D=m/\m.now<x.till∨m.bQ8 D=m.bQ8 (.map [])/\x.till<=m.now)):=Fe (fun D hD=>by
  rcases hD with⟨rfl,q⟩|⟨rfl,q⟩
  ·refine bo1 ⟨?_,q⟩
   cases m
   dsimp only at hcd
   subst hcd
   rfl
  exact bo3 ⟨rfl,q⟩)
 clear hcd h0;go_enter func49,ntmps49;go_wp2;go_region_held3 (fun u=>u.cell? (a_ B 0)=some (.map (some m.bm))/\u.cell? (a_ B 14)=some (.int .i64 m.now)) (go_keep)
  (first|(go_at_call 83;refine(HF _ HM.drew).mono ?_;rintro ee u ⟨rfl,D,hD,h1⟩;have d0:u.cell? (a_ B 0)=some (.map (some m.bm)):=h1.c0;have d14:u.cell? (a_ B 14)=some (.int .i64 m.now):=h1.c14))
 have H1:=Fe h1;have HZ:=Fe (HE D hD.1);have HU:Hid (∀u2,Mx w0 P u2 B (m.bQ8 D)->f_ Vh 84 #[.map (some m.bm),.int .i64 m.now] u2 fun ee w'=>ee=.returned (.slice none 0 0)/\gm u2.heap.size u2 w'):=Fe (fun u2 hu=>aX3 (D:=D) m.now hu.map hD.2);clear h1 hD HM c0 c14 HF HE;go_wp2;go_region_held3 (fun u=>u.cell? (a_ B 0)=some (.map (some m.bm))/\u.cell? (a_ B 14)=some (.int .i64 m.now)) (go_keep)
  (first|(go_at_call 84;refine(HU _ H1.drew).mono ?_;rintro ee u2 ⟨rfl,hb2⟩;have h2:=(H1.drew).below hb2;have e0:u2.cell? (a_ B 0)=some (.map (some m.bm)):=h2.c0;have e14:u2.cell? (a_ B 14)=some (.int .i64 m.now):=h2.c14))
 have H2:=Fe h2;clear h2 hb2 H1 HU;go_wp2;refine br4 1 ?_;rw[bp5];go_wp2;go_end0;exact⟨rfl,_,HZ,H2⟩
theorem aX5(h:Mx w0 P w B m)(ho:m.Ok)(ta f t:Int)(load:ByteArray)(hta:0<=ta/\ta<=4294967295)(hF:0<=f/\f<=65535)(hT:0<=t/\t<=65535)(hl:load.size<=262144)(x:Nb)(hr:Room m.cd (m.hop ta))(hx:m.cd.atKey (.int .u32 (m.hop ta)) bC.d=x.d)(hn:Maps.has m.cd (.int .u32 (m.hop ta))=true)(hk:x.asks≠0):
  f_ Vh 143 #[p_ B,.int .u32 ta,.agg (rF f t load)] w fun ee w'=>ee=.returned (.tuple #[])/\Mx w0 P w' B (m.Ty ta f t load x):=by
 have hhop:=ho.hop hta;have HM:=Fe h;have HP:Hid (∀u,Mx w0 P u B m->f_ Vh 181 #[p_ B,.int .u32 ta,.agg (rF f t load)] u fun ee w'=>ee=.returned (.string (m.lD ta f t load))/\Mx w0 P w' B m.Ww):=Fe (fun u hu=>GU hu ho ta f t load hta hF hT hl);have HH:Hid (∀u,Mx w0 P u B m.Ww->f_ Vh 182 #[p_ B,.int .u32 ta] u fun ee w'=>ee=.returned (.int .u32 (m.hop ta))/\gm u.heap.size u w'):=Fe (fun u hu=>ap8 hu ta);have HL:Hid (∀u,Mx w0 P u B m.Ww->(Instr.lookup 102 (.map (some m.bm)) (.int .u32 (m.hop ta)) true).run Vh u=.ok (.tuple #[.agg (rM x.asks x.k0.toNat x.k1.toNat x.k2.toNat x.k3.toNat x.k4.toNat x.k5.toNat x.till x.load),.bool (Maps.has m.cd (.int .u32 (m.hop ta)))]) u):=Fe (fun u hu=>YE (D:=m.cd) hu.map _ hhop x hx);have HQ:Hid (∀u,Mx w0 P u B m.Ww->f_ Vh 134 #[.map (some m.bm),.int .u32 (m.hop ta),Nb.v {x with load:=m.lD ta f t load}] u fun ee w'=>ee=.returned (.tuple #[])/\Mx w0 P w' B (m.Ty ta f t load x)/\PU u w' m.bm):=Fe (fun u hu=>Z6 (m:=m.Ww) hu hr _);have HY:=Fe (af8 x);unfold Nb.v at HY HQ;obtain⟨pk,hpk⟩:=ex_ (m.lD ta f t load);obtain⟨hp,hhp⟩:=ex_ (m.hop ta);obtain⟨mz,hmz⟩:=ex_ (m.Ty ta f t load x);rw[hn]at HL;have HBM:Hid (mz.bm=m.bm):=Fe (by rw[hmz];rfl);rw[<-hmz]at HQ ⊢;rw[<-hpk]at HP HQ;rw[<-hhp]at HH HL HQ;clear h ho hr hx hpk hhp hta hF hT hl hhop hmz;go_enter func143,ntmps143;go_wp2_with fail;refine on_ (HP _ (HM.alloc _)) fun u h1=>?_;have H1:=Fe h1;clear h1 HP HM;go_wp2_with fail;refine on_ (HH _ H1) fun u2 hb2=>?_;have H2:=Fe (H1.below hb2);have c0:u2.cell? (a_ B 0)=some (.map (some m.bm)):=H2.c0;have hlt:=H2.lt;have hB:B≠u2.heap.size:=bo5 hlt;have hL:=HL _ H2;clear hb2 H1 HH HL;have hk:(x.asks==0)=false:=by simpa using hk
 rw[hk]at HY;clear hn;go_wp2_with fail;refine on_ (HY _) fun u3 hb3=>?_;have hr3:=(hb3.block u2.heap.size (by simp)).trans (bn3 u2 (.cells (rM x.asks x.k0.toNat x.k1.toNat x.k2.toNat x.k3.toNat x.k4.toNat x.k5.toNat x.till x.load) 157 (0,0)));have hc:=nine hr3;have H3:=Fe ((H2.alloc _).below hb3);have hf3:u3.frozen? (a_ u2.heap.size 8)=false:=by simp[World.frozen?,hr3]
 have h02:=H2.size;have hnf: ¬iq B m.Ww u2.heap.size:=fun hf=>bu3 _ (H2.ik hf);clear hb3 HY c0 hL;go_wp2;obtain⟨X,hX⟩:=ex_ (u3.setCell (a_ u2.heap.size 8) (.string pk));have HX:Hid (Mx w0 P X B m.Ww/\X.heap[u2.heap.size]?=some (.cells (rM x.asks x.k0.toNat x.k1.toNat x.k2.toNat x.k3.toNat x.k4.toNat x.k5.toNat x.till pk) 157 (0,0))/\u2.heap.size≠m.bm):=Fe (by
  rw[hX];exact⟨H3.aside _ _ hnf h02,gI u3 8 (.string pk) hr3,fun e=>hnf (bo3 (bo1 e))⟩)
 have HC:Hid (∀u:fV,u.heap[u2.heap.size]?=some (.cells (rM x.asks x.k0.toNat x.k1.toNat x.k2.toNat x.k3.toNat x.k4.toNat x.k5.toNat x.till pk) 157 (0,0))->c_ u u2.heap.size 0 (.int .i64 x.asks)/\c_ u u2.heap.size 1 (.int .u8 x.k0.toNat)/\c_ u u2.heap.size 2 (.int .u8 x.k1.toNat)/\c_ u u2.heap.size 3 (.int .u8 x.k2.toNat)/\c_ u u2.heap.size 4 (.int .u8 x.k3.toNat)/\c_ u u2.heap.size 5 (.int .u8 x.k4.toNat)/\c_ u u2.heap.size 6 (.int .u8 x.k5.toNat)/\c_ u u2.heap.size 7 (.int .i64 x.till)/\c_ u u2.heap.size 8 (.string pk)):=Fe (fun u hu=>nine hu);rw[<-hX];clear hX hc hr3 hf3 H3 hnf;go_region_held3 (fun u=>c_ u B 0 (.map (some m.bm))/\c_ u u2.heap.size 0 (.int .i64 x.asks)/\c_ u u2.heap.size 1 (.int .u8 x.k0.toNat)/\c_ u u2.heap.size 2 (.int .u8 x.k1.toNat)/\c_ u u2.heap.size 3 (.int .u8 x.k2.toNat)/\c_ u u2.heap.size 4 (.int .u8 x.k3.toNat)/\c_ u u2.heap.size 5 (.int .u8 x.k4.toNat)/\c_ u u2.heap.size 6 (.int .u8 x.k5.toNat)/\c_ u u2.heap.size 7 (.int .i64 x.till)/\c_ u u2.heap.size 8 (.string pk)) (first|exact⟨HX.1.c0,HC _ HX.2.1⟩|exact⟨(by have q:=H1.c0;rw[gB HBM]at q;exact q),HC _ HR⟩)
  (first|(go_at_call 134;refine(HQ _ HX.1.drew).mono ?_;rintro ee u ⟨rfl,h1,t1⟩;have H1:=Fe h1;have HR:=Fe (t1.cells HX.2.1 HX.2.2);clear h1 t1))
 clear HX HC HR;go_wp2;go_end0;exact⟨rfl,H1⟩
end Js
namespace Js
open Bs
variable{w0:fV} {P:Nat→Prop} {w w':fV} {B:Nat} {m m' mz:Mc}
theorem Rs(h:Mx w0 P w B m)(hf:m.lK=true)(Z:Mc->Prop)(h0:m.now<m.fu->Z m)(hs:m.fs<=3)
  (HF: ¬m.now<m.fu->∀u,Mx w0 P u B m->f_ Vh 92 #[p_ B] u fun ee w'=>ee=.returned (.tuple #[])/\∃mz,Z mz/\Mx w0 P w' B mz):
  f_ Vh 51 #[p_ B] w fun ee w'=>ee=.returned (.tuple #[])/\∃mz,Z mz/\Mx w0 P w' B mz:=by
 have HI:=W9 h;rw[hf]at HI;have HII:=Fe HI;have HW:Hid (∀u,Mx w0 P u B m->f_ Vh 87 #[p_ B,.agg #[.int .i64 m.fs,.int .i64 m.fu],.func (.func 92) #[] #[]] u fun ee w'=>ee=.returned (.tuple #[])/\∃mz,Z mz/\Mx w0 P w' B mz):=Fe (fun u hu=>o7 hu m.fs m.fu Z h0 (fun _ e=>absurd e (by omega)) (by omega) (fun hn _=>HF hn));have HM:=Fe h;have UC:=h.UC;have c51:=h.c51;clear h HI h0 HF;go_enter func51,ntmps51;go_wp2_with fail;refine HII.mono ?_;rintro ee u ⟨rfl,rfl⟩;go_wp2_with fail;refine on_ (HW _ HM) ?_;rintro u2 ⟨mz,hz,h7⟩;have H7:=Fe h7;have HZ:=Fe hz;clear h7 hz HM HW;go_wp2;go_end0;exact⟨rfl,mz,HZ,H7⟩
theorem aR8(h:Mx w0 P w B m)(hst:m.st=4∨m.st=5∨m.st=6)(Z:Mc->Prop)
  (HF:∀u,Mx w0 P u B m->f_ Vh 90 #[p_ B] u fun ee w'=>ee=.returned (.tuple #[])/\∃mz,Z mz/\Mx w0 P w' B mz):
  f_ Vh 50 #[p_ B] w fun ee w'=>ee=.returned (.tuple #[])/\∃mz,Z mz/\Mx w0 P w' B mz:=by
 have nk:=h.nk;have HT:=Fe (HF _ h);clear h HF
 rcases hst with e|e|e
 all_goals
  rw[e]at nk;clear e;go_enter func50,ntmps50;go_wp2_with fail;refine on_ HT ?_;rintro u2 ⟨mz,hz,h7⟩;have H7:=Fe h7;have HZ:=Fe hz;clear h7 hz HT;go_wp2;go_end0;exact⟨rfl,mz,HZ,H7⟩
end Js
namespace Ho
open Bs Js
variable{w0 w w':fV} {P:Nat→Prop} {Q B H G:Nat} {m m':Mc} {h h':Host} {K:Nat→Nat} {s:List UInt8} {wn:Nat} {img:ByteArray} {n t g:Nat} {j:Option Nat} {p:Int}
def vw(m:Mc):Mc:={m with bm:=0,cd:=.map [],cf:=0,gf:=0,gq:=[],lost:=0,id:=0}
theorem dV(m:Mc)(f:ByteArray):vw (m.sent f)=vw m:=by unfold Mc.sent;split<;>rfl
def KX(x:Nb):Prop:=x.asks=0/\x.k0=2/\x.k1=0/\x.k2=0/\x.k3=0/\x.k4=0/\x.k5=7
def bQ(i:Int):Prop:=0<=i/\i<=65535
theorem aS9(o:m.Ok)(a:Int)(x:Nb):(m.keep a x).Ok:=⟨o.1,o.2,o.3,o.4,o.5,o.6,o.7,o.8,o.9,o.10,o.11,o.12,o.13,o.14,o.15,o.16⟩
end Ho
namespace Ho
open Bs Js
variable{w0 w w':fV} {P:Nat→Prop} {Q B H G:Nat} {m m' m1:Mc} {h h':Host} {K:Nat→Nat} {s:List UInt8} {wn:Nat} {img:ByteArray} {n t g:Nat} {j:Option Nat} {p pp:Int}
theorem aV0(G:Tf.RH)(hk:Tf.UU G=0):(⟨(Tf.U7 G).toArray⟩:ByteArray).size<=1472:=by
 rw[strSize];unfold Tf.U7;rw[bp0 hk];unfold Tf.UU at hk
 split at hk
 ·cases hk
 split at hk
 ·cases hk
 split at hk
 ·cases hk
 omega
theorem dn(hne:0<=h.next/\h.next<=4294967295)(hle:0<=h.gK/\h.gK<=4294967295)(t0 t1 t2 t3 t4 t5:UInt8)(i gF fr ta cl:Int)(hi:bQ i)(hx:0<=gF/\gF<=4294967295)(hfr:0<=fr/\fr<=4294967295)(hta:0<=ta/\ta<=4294967295)(hcl:0<=cl/\cl<=4294967295)(kq kb:UInt8)(os:Dh.gU)(hk:kq=1/\kb=2∨kq=3/\kb=5)(hbad:Dh.bad (kY kq os)=false)(hadd:Dh.gW [] (kY kq os)=kY kq os)(ho:Y2 (kY kq os) 53=[kq])(hl:(kY kq os).length<=1000)(hz:(Dh.mr false gF cl 0 0 [2,0,0,0,0,42] (kY kq os)).length<=1472):
  YC NA h (og.ni [t0,t1,t2,t3,t4,t5,2,0,0,0,0,42] 2048 (Ip.Db i 64 17 fr ta (Ud.sH 68 67 fr ta (Dh.nH false gF cl 0 0 [2,0,0,0,0,42] (kY kq os))))) [ad8 h gF kb] h.Ww:=by
 intro w H ka cd hng;have hH0:(0:Nat)≠H:=fun e=>absurd (e▸hng) (by decide);have hH1:(1:Nat)≠H:=fun e=>absurd (e▸hng) (by decide);refine aC0 ka cd t0 t1 t2 t3 t4 t5 i fr ta 68 _ hi hfr hta (by decide) (ad6 _ _ _ _ _ _ _) _ (fun u ku cu hb=> ?_);refine(av8 ku cu hH0 hH1 68 67 _ gF cl 0 0 (kY kq os) kb kq ho hk hl hx hne hle (fun u=>aJ6 false gF cl 0 0 2 0 0 0 0 42 (kY kq os) hx hcl (by decide) (by decide) hbad hadd hz u)).mono ?_;rintro ee w' ⟨g,rfl,o,k2,t2⟩;refine⟨_,_,rfl,some (a_ g 0),1,rfl,Yb o hb.size,k2,?_⟩;exact⟨t2.os.trans hb.os,t2.tape.trans hb.tape,t2.output.trans hb.output,bo6 hb.size t2.size,fun j hj hn=>(t2.block j (bo9 hj hb.size) hn).trans (hb.block j hj)⟩
theorem Hd:YC NA h az1 [aB9] h:=by
 intro w H ka cd hng;refine(aD4 ka cd).mono ?_;rintro ee w' ⟨g,rfl,o,k2,t2⟩;exact⟨some (a_ g 0),1,rfl,o,k2,t2⟩
theorem aR9:YC NA h Yg [] h:=by
 intro w H ka cd hng;refine on_ (au6 ka cd) ?_;rintro w' ⟨k2,t2⟩;exact⟨none,0,rfl,bq3 _ _ _ _,k2,t2⟩
end Ho
namespace Js
open Bs
variable{w0:fV} {P:Nat→Prop} {w w':fV} {Q B:Nat} {m m' mz:Mc} {K:Nat→Nat} {s s2:ByteArray}
def FrZ(K:Nat->Nat)(m:Mc)(f:ByteArray)(Z:Mc->Prop):Prop:=∀(w0:fV) (P:Nat->Prop) (u:fV) (B:Nat),Tk K w0 P->Mx w0 P u B m->f_ Vh 54 #[p_ B,.string f] u fun ee w'=>ee=.returned (.tuple #[])/\∃mz,Z mz/\Mx w0 P w' B mz
def St1(K:Nat->Nat)(m:Mc)(f:ByteArray)(Z:Mc->Prop):Prop:=(m.ended=true->Z m)/\(m.ended=false->FrZ K m f Z)
theorem FrZ.mono{Z Z':Mc->Prop}(q:FrZ K m s Z)(h:∀x,Z x->Z' x):FrZ K m s Z':=fun w0 P u B ht hu=>(q w0 P u B ht hu).mono fun ee w'=>by
 rintro ⟨e,mz,z,hm⟩;exact⟨e,mz,h mz z,hm⟩
theorem bf7(h:Bx w0 P w Q B m)(k:Int)(hk:1<=k)(Z:Mc->Prop)
  (HT:f_ Vh 31 #[p_ B,.int .i64 2] w fun ee w'=>ee=.returned (.int .i64 k)/\∃mz,Z mz/\Mx w (iq B m) w' B mz):
  f_ Vh 17 #[p_ Q,.int .i64 2] w fun ee w'=>(∃k:Int,1<=k/\ee=.returned (.int .i64 k))/\∃mz,Z mz/\Bx w0 P w' Q B mz:=by
 have HM:=Fe (kP h);have HTT:=Fe HT;have HB:=Fe h;have HK:=Fe hk;clear h HT hk;go_enter func17,ntmps17;go_wp2_with fail;refine HM.mono ?_;rintro ee u ⟨rfl,rfl⟩;go_wp2_with fail;refine on_ HTT ?_;rintro u ⟨mz,hz,hu⟩;have HZ:=Fe hz;have HU:=Fe (HB.next hu);clear hu HTT HM HB hz;go_wp2;go_ret;exact⟨⟨k,HK,rfl⟩,mz,HZ,HU⟩
theorem bf3(h:Mx w0 P w B m)(r:List ByteArray)(hq:m.cq=s::r):f_ Vh 53 #[.pointer (some (a_ B 16))] w fun e w'=>e=.returned (.tuple #[.string s,.bool true])/\Mx w0 P w' B m.jP:=by
 have q:=AU h;rw[show kW m.cq=s by rw[hq];rfl,show(!m.cq.isEmpty)=true by rw[hq];rfl]at q;exact q
theorem bF8(h:Mx w0 P w B m)(hq:m.cq=[]):f_ Vh 53 #[.pointer (some (a_ B 16))] w fun e w'=>e=.returned (.tuple #[.string ⟨#[]⟩,.bool false])/\Mx w0 P w' B m:=by
 have q:=AU h;rw[show kW m.cq=⟨#[]⟩by rw[hq];rfl,show(!m.cq.isEmpty)=false by rw[hq];rfl,show m.jP=m by unfold Mc.jP;rw[hq]]at q;exact q
theorem bh3{Z:Mc->Prop}(q:St1 K m s Z)(hr:Tk K w0 P)(hu:Mx w0 P w B m):(m.ended=true/\Z m)∨(m.ended=false/\f_ Vh 54 #[p_ B,.string s] w fun ee w'=>ee=.returned (.tuple #[])/\∃mz,Z mz/\Mx w0 P w' B mz):=by
 cases he:m.ended with
 |true=>exact bo1 ⟨rfl,q.1 he⟩
 |false=>exact bo3 ⟨rfl,q.2 he _ _ _ _ hr hu⟩
theorem bQ3(h:Mx w0 P w B m)(hr:Tk K w0 P)(hq:m.cq=[s])(Z:Mc->Prop)(hs:St1 K m.jP s Z)(hZ:∀mz,Z mz->mz.cq=[]):
  f_ Vh 31 #[p_ B,.int .i64 2] w fun ee w'=>ee=.returned (.int .i64 1)/\∃mz,Z mz/\Mx w0 P w' B mz:=by
 have HN:=Fe (bf3 h [] hq);have HST:=Fe hs;have HRR:=Fe hr;have HZZ:=Fe hZ;clear h hq hs hr hZ;go_enter func31,ntmps31;go_wp2;refine br4 3 ?_;rw[bp5];go_wp2_with fail;refine on_ HN fun u hu=>?_;have HU:=Fe hu;have HE:=Fe (t_ hu);clear hu HN
 rcases bh3 HST HRR HU with⟨e1,z1⟩|⟨e1,z1⟩
 ·have HZ1:=Fe z1
  have HN2:=Fe (bF8 HU (HZZ _ z1));rw[e1]at HE;clear z1 HST HZZ;go_wp2_with fail;refine HE.mono ?_;rintro ee u2 ⟨rfl,rfl⟩;go_wp2;rw[bp5];go_wp2_with fail;refine on_ HN2 fun u3 hu3=>?_;have HU3:=Fe hu3;clear hu3 HN2 HE HU;go_wp2;go_ret;exact⟨rfl,_,HZ1,HU3⟩
 have HF:=Fe z1;rw[e1]at HE;clear z1 HST;go_wp2_with fail;refine HE.mono ?_;rintro ee u2 ⟨rfl,rfl⟩;go_wp2_with fail;refine on_ HF ?_;rintro u3 ⟨mz,hz,hu3⟩;have HZ1:=Fe hz;have HN2:=Fe (bF8 hu3 (HZZ _ hz));clear hz hu3 HF HE HU HZZ;go_wp2;rw[bp5];go_wp2_with fail;refine on_ HN2 fun u4 hu4=>?_;have HU4:=Fe hu4;clear hu4 HN2;go_wp2;go_ret;exact⟨rfl,_,HZ1,HU4⟩
theorem bP8(h:Mx w0 P w B m)(hr:Tk K w0 P)(hq:m.cq=[s,s2])(Z1 Z:Mc->Prop)(hs:St1 K m.jP s Z1)(hZ:∀mz,Z1 mz->mz.cq=[s2]/\St1 K mz.jP s2 Z):
  f_ Vh 31 #[p_ B,.int .i64 2] w fun ee w'=>ee=.returned (.int .i64 2)/\∃mz,Z mz/\Mx w0 P w' B mz:=by
 have HN:=Fe (bf3 h [s2] hq);have HST:=Fe hs;have HRR:=Fe hr;have HZZ:=Fe hZ;clear h hq hs hr hZ;go_enter func31,ntmps31;go_wp2;refine br4 3 ?_;rw[bp5];go_wp2_with fail;refine on_ HN fun u hu=>?_;have HU:=Fe hu;have HE:=Fe (t_ hu);clear hu HN
 rcases bh3 HST HRR HU with⟨e1,z1⟩|⟨e1,z1⟩
 case inl=>
  have HN2:=Fe (bf3 HU [] (HZZ _ z1).1);have HS2:=Fe (HZZ _ z1).2;rw[e1]at HE;clear z1 HST HZZ;go_wp2_with fail;refine HE.mono ?_;rintro ee u2 ⟨rfl,rfl⟩;go_wp2;rw[bp5];go_wp2_with fail;refine on_ HN2 fun u3 hu3=>?_;have HU3:=Fe hu3;have HE3:=Fe (t_ hu3);clear hu3 HN2 HE HU
  rcases bh3 HS2 HRR HU3 with⟨e3,z3⟩|⟨e3,z3⟩
  ·have HZ3:=Fe z3
   rw[e3]at HE3;clear z3 HS2;go_wp2_with fail;refine HE3.mono ?_;rintro ee u4 ⟨rfl,rfl⟩;go_wp2;rw[bp5];go_wp2;go_ret;exact⟨rfl,_,HZ3,HU3⟩
  have HF:=Fe z3;rw[e3]at HE3;clear z3 HS2;go_wp2_with fail;refine HE3.mono ?_;rintro ee u4 ⟨rfl,rfl⟩;go_wp2_with fail;refine on_ HF ?_;rintro u5 ⟨mz,hz,hu5⟩;have HZ5:=Fe hz;have HU5:=Fe hu5;clear hz hu5 HF HE3 HU3;go_wp2;rw[bp5];go_wp2;go_ret;exact⟨rfl,_,HZ5,HU5⟩
 have HF0:=Fe z1;rw[e1]at HE;clear z1 HST;go_wp2_with fail;refine HE.mono ?_;rintro ee u2 ⟨rfl,rfl⟩;go_wp2_with fail;refine on_ HF0 ?_;rintro u6 ⟨my,hy,hu6⟩;have HN2:=Fe (bf3 hu6 [] (HZZ _ hy).1);have HS2:=Fe (HZZ _ hy).2;clear hy hu6 HF0 HE HU HZZ;go_wp2;rw[bp5];go_wp2_with fail;refine on_ HN2 fun u3 hu3=>?_;have HU3:=Fe hu3;have HE3:=Fe (t_ hu3);clear hu3 HN2
 rcases bh3 HS2 HRR HU3 with⟨e3,z3⟩|⟨e3,z3⟩
 ·have HZ3:=Fe z3
  rw[e3]at HE3;clear z3 HS2;go_wp2_with fail;refine HE3.mono ?_;rintro ee u4 ⟨rfl,rfl⟩;go_wp2;rw[bp5];go_wp2;go_ret;exact⟨rfl,_,HZ3,HU3⟩
 have HF:=Fe z3;rw[e3]at HE3;clear z3 HS2;go_wp2_with fail;refine HE3.mono ?_;rintro ee u4 ⟨rfl,rfl⟩;go_wp2_with fail;refine on_ HF ?_;rintro u5 ⟨mz,hz,hu5⟩;have HZ5:=Fe hz;have HU5:=Fe hu5;clear hz hu5 HF HE3 HU3;go_wp2;rw[bp5];go_wp2;go_ret;exact⟨rfl,_,HZ5,HU5⟩
end Js
namespace Ho
open Bs Js
variable{m:Mc} {K:Nat→Nat} {s:ByteArray}
theorem bH3(hq:m.cq=[s])(Z:Mc->Prop)(hs:St1 K m.jP s Z)(hZ:∀mz,Z mz->mz.cq=[]):bd9 (Tk K) m Z:=fun w Q B hb hr=>
 bf7 hb 1 (by decide) Z (bQ3 hb.mx hr hq Z hs hZ)
theorem bH1(hq:m.cq=[s,s])(Z1 Z:Mc->Prop)(hs:St1 K m.jP s Z1)(hZ:∀mz,Z1 mz->mz.cq=[s]/\St1 K mz.jP s Z):bd9 (Tk K) m Z:=fun w Q B hb hr=>
 bf7 hb 2 (by decide) Z (bP8 hb.mx hr hq Z1 Z hs hZ)
end Ho
namespace Ho
open Bs Js
def d4(n:Nat):List UInt8:=if n<10 then [UInt8.ofNat (48+n)]else if n<100 then [UInt8.ofNat (48+n/10),UInt8.ofNat (48+n%10)]else if n<1000 then [UInt8.ofNat (48+n/100),UInt8.ofNat (48+n/10%10),UInt8.ofNat (48+n%10)]else [UInt8.ofNat (48+n/1000),UInt8.ofNat (48+n/100%10),UInt8.ofNat (48+n/10%10),UInt8.ofNat (48+n%10)]
theorem bT9(n:Nat)(h:n<10000):dg n=d4 n:=by
 unfold d4
 split
 ·rename_i h1;exact dg1 n h1
 rename_i h1
 rw[dg2 n h1]
 split
 ·rename_i h2;rw[dg1 _ (by omega)];rfl
 rename_i h2
 rw[dg2 (n/10) (by omega)]
 split
 ·rename_i h3;rw[dg1 _ (by omega),show n/10/10=n/100 by omega];rfl
 rename_i h3
 rw[dg2 (n/10/10) (by omega),dg1 _ (by omega),show n/10/10/10=n/1000 by omega,show n/10/10%10=n/100%10 by omega];rfl
def okD(n:Nat):Bool:=Lib.itoa (n:Int)==d4 n && Lib.atoi (d4 n)==some (n:Int) && af0 0 (d4 n)==(n:Int) && Tf.iM (d4 n) && decide ((d4 n).length<=4)
def bP9:Nat->Bool
 |0=>true
 |n+1=>okD n && bP9 n
theorem bQ1{k n:Nat}(h:bP9 k=true)(hn:n<k):okD n=true:=by
 induction k with
 |zero=>omega
 |succ k ih=>
  simp only[bP9,bu7]at h
  by_cases e:n=k
  ·rw[e];exact h.1
  exact ih h.2 (by omega)
theorem bT2:bP9 4000=true:=by decide+kernel
structure Dg (n:Nat):Prop where
 itoa:Lib.itoa (n:Int)=d4 n
 atoi:Lib.atoi (d4 n)=some (n:Int)
 num:af0 0 (d4 n)=(n:Int)
 nam:Tf.iM (d4 n)=true
 len:(d4 n).length<=4
 dg:dg n=d4 n
theorem bg9(n:Nat)(h:n<4000):Dg n:=by
 have q:=bQ1 bT2 h;unfold okD at q;simp only[bu7,beq_iff_eq,by6]at q;obtain⟨⟨⟨⟨q1,q2⟩,q3⟩,q4⟩,q5⟩:=q;exact⟨q1,q2,q3,q4,q5,bT9 n (by omega)⟩
theorem Dg.bM5{n:Nat}(d:Dg n)(h:n<4000):Xa ⟨(Ho.dg n).toArray⟩ n:=by
 rw[d.dg];exact⟨by rw[strSize];have:=d.len;omega,d.atoi,by rw[d.itoa],by omega⟩
structure Pm where
 s:List UInt8
 bk:Nat
 wn:Nat
 nx:Int
 ob:Bool
structure Pm.Ok (p:Pm):Prop where
 len:p.s.length<4000
 bk:8<=p.bk/\p.bk<=1007
 wn:1<=p.wn/\p.wn<=8
 nx:p.nx=167772161∨p.nx=3232235529
def Pm.b(p:Pm):Nat:=if p.ob=true then min p.bk 300 else 512
def Pm.w(p:Pm):Nat:=if p.ob=true then p.wn else 1
def Pm.L(p:Pm):Nat:=p.s.length/p.b
def Pm.img(p:Pm):ByteArray:=⟨p.s.toArray⟩
def Pm.blk(p:Pm)(k:Nat):List UInt8:=(p.s.drop (k*p.b)).take p.b
variable{p:Pm} {K:Nat→Nat} {m m' m2 mz:Mc} {t:Nat} {pt q:Int} {j:Option Nat}
theorem Pm.Ok.b8(o:p.Ok):8<=p.b/\p.b<=512:=by
 have:=o.bk;unfold Pm.b
 split<;>omega
theorem Pm.Ok.w8(o:p.Ok):1<=p.w/\p.w<=8:=by
 have:=o.wn;unfold Pm.w
 split<;>omega
theorem Pm.Ok.le(o:p.Ok)(k:Nat):k<=p.L↔k*p.b<=p.s.length:=Nat.le_div_iff_mul_le (by have:=o.b8;omega)
theorem Pm.Ok.L5(o:p.Ok):p.L<=499:=by
 have h1:=(o.le p.L).1 (bn7 _);have h2:=o.b8;have h3:=o.len
 rcases Nat.lt_or_ge p.L 500 with h|h
 ·omega
 have:=Nat.mul_le_mul h h2.1;omega
theorem Pm.Ok.nxb(o:p.Ok):0<=p.nx/\p.nx<=4294967295:=by
 rcases o.nx with e|e<;>rw[e]<;>decide
theorem Pm.bH0(p:Pm):p.img.size=p.s.length:=strSize _
theorem Pm.Ok.full(o:p.Ok){k:Nat}(h:k<p.L):(p.blk k).length=p.b:=by
 have h1:=(o.le (k+1)).1 h;rw[Cs]at h1;unfold Pm.blk;rw[bp7,bq8];omega
theorem Pm.Ok.short(o:p.Ok){k:Nat}(h:k=p.L):(p.blk k).length<p.b:=by
 have h1: ¬(p.L+1)*p.b<=p.s.length:=fun q=>Nat.not_le.2 (wy p.L) ((o.le (p.L+1)).2 q);rw[Cs]at h1;have h2:=o.b8;unfold Pm.blk;rw[bp7,bq8,h];omega
theorem Pm.bH8(p:Pm)(k:Nat):(p.blk k).length<=p.b:=by
 unfold Pm.blk;rw[bp7];exact Nat.min_le_left _ _
theorem Pm.bi4(p:Pm)(k:Nat):p.s.take (k*p.b)++p.blk k=p.s.take ((k+1)*p.b):=by
 unfold Pm.blk;rw[Cs,List.take_add]
theorem Pm.Ok.all(o:p.Ok):p.s.take (p.L*p.b)++p.blk p.L=p.s:=by
 rw[Pm.bi4];refine bt6 ?_;have h1: ¬(p.L+1)*p.b<=p.s.length:=fun q=>Nat.not_le.2 (wy p.L) ((o.le (p.L+1)).2 q);omega
theorem Pm.Ok.take_len(o:p.Ok){k:Nat}(h:k<=p.L):(p.s.take (k*p.b)).length=k*p.b:=by
 have:=(o.le k).1 h;rw[bp7];omega
def vx(m:Mc):Mc:={vw m with cq:=[]}
theorem bI9(e:vw m'=vw m):vx m'=vx m:=by unfold vx;rw[e]
structure Cb (K:Nat->Nat) (p:Pm) (m:Mc):Prop where
 ok:m.Ok
 k0:m.k0=2
 k1:m.k1=0
 k2:m.k2=0
 k3:m.k3=0
 k4:m.k4=0
 k5:m.k5=42
 name:m.name=⟨#[107,101,114,110,101,108]⟩
 cap:m.cap=600000
 gQ:m.gQ.data.toList=Hs.Xk K p.s
 blk:m.blk=p.bk
 win:m.win=p.wn
 rx:m.rx=16
 tx:m.tx=16
theorem Cb.same(c:Cb K p m)(e:vx m'=vx m)(o:m'.Ok):Cb K p m':=
 ⟨o,(by5 Mc.k0 e).trans c.k0,(by5 Mc.k1 e).trans c.k1,(by5 Mc.k2 e).trans c.k2,(by5 Mc.k3 e).trans c.k3,(by5 Mc.k4 e).trans c.k4,(by5 Mc.k5 e).trans c.k5,(by5 Mc.name e).trans c.name,(by5 Mc.cap e).trans c.cap,by rw[show m'.gQ=m.gQ from(by5 Mc.gQ e:)];exact c.gQ,(by5 Mc.blk e).trans c.blk,(by5 Mc.win e).trans c.win,(by5 Mc.rx e).trans c.rx,(by5 Mc.tx e).trans c.tx⟩
theorem Cb.card(c:Cb K p m):m.card=[2,0,0,0,0,42]:=by
 unfold Mc.card;rw[c.k0,c.k1,c.k2,c.k3,c.k4,c.k5]
structure Bo (K:Nat->Nat) (p:Pm) (t:Nat) (pt:Int) (m:Mc):Prop where
 cb:Cb K p m
 st:m.st=4
 iB:m.iB=167772215
 mask:m.mask=4294967040
 yz:m.yz=167772161
 FJ:m.FJ=p.nx
 ends:m.ends=false
 now:m.now=t
 port:m.port=pt
 pb:1024<=pt/\pt<=61023
theorem Bo.same(b:Bo K p t pt m)(e:vx m'=vx m)(o:m'.Ok):Bo K p t pt m':=
 ⟨b.cb.same e o,(by5 Mc.st e).trans b.st,(by5 Mc.iB e).trans b.iB,(by5 Mc.mask e).trans b.mask,(by5 Mc.yz e).trans b.yz,(by5 Mc.FJ e).trans b.FJ,(by5 Mc.ends e).trans b.ends,(by5 Mc.now e).trans b.now,(by5 Mc.port e).trans b.port,b.pb⟩
theorem Bo.addr(b:Bo K p t pt m):m.addr=167772215:=by
 unfold Mc.addr;rw[bo4 (by rw[b.st];decide),b.iB]
theorem Bo.bb7(b:Bo K p t pt m)(o:p.Ok):m.hop p.nx=167772161:=by
 unfold Mc.hop;rw[b.addr,b.mask,b.yz]
 rcases o.nx with e|e<;>rw[e]
 ·have hb:(bits BinOp.and .u32 167772161 4294967040==bits BinOp.and .u32 167772215 4294967040)=true:=by decide
  rw[hb];rfl
 have hb:(bits BinOp.and .u32 3232235529 4294967040==bits BinOp.and .u32 167772215 4294967040)=false:=by decide
 rw[hb];rfl
def rqB(p:Pm):ByteArray:=⟨(Tf.U7 (Xc [107,101,114,110,101,108] p.bk p.wn)).toArray⟩
structure Re (p:Pm) (pt:Int) (m:Mc):Prop where
 ph:m.phase=1
 TE:m.TE=1
 since:m.since=0
 img:m.ql=[]
 sF:m.sF=pt
 sT:m.sT=69
 sL:m.sL=rqB p
 Be:m.Be=512
 Od:m.Od=1
structure Lo (p:Pm) (pt:Int) (k:Nat) (q:Int) (m:Mc):Prop where
 ph:m.phase=2
 TE:m.TE=((k+1:Nat):Int)
 since:0<=m.since/\m.since<p.w
 img:m.ql=p.s.take (k*p.b)
 sF:m.sF=pt
 sT:m.sT=q
 sL:m.sL=XM k
 Wl:m.Wl=q
 Be:m.Be=p.b
 Od:m.Od=p.w
 le:k<=p.L
theorem Re.same(r:Re p pt m)(e:vx m'=vx m):Re p pt m':=⟨(by5 Mc.phase e).trans r.ph,(by5 Mc.TE e).trans r.TE,(by5 Mc.since e).trans r.since,(by5 Mc.ql e).trans r.img,(by5 Mc.sF e).trans r.sF,(by5 Mc.sT e).trans r.sT,(by5 Mc.sL e).trans r.sL,(by5 Mc.Be e).trans r.Be,(by5 Mc.Od e).trans r.Od⟩
theorem Lo.same{k:Nat}(r:Lo p pt k q m)(e:vx m'=vx m):Lo p pt k q m':=⟨(by5 Mc.phase e).trans r.ph,(by5 Mc.TE e).trans r.TE,by rw[show m'.since=m.since from(by5 Mc.since e:)];exact r.since,(by5 Mc.ql e).trans r.img,(by5 Mc.sF e).trans r.sF,(by5 Mc.sT e).trans r.sT,(by5 Mc.sL e).trans r.sL,(by5 Mc.Wl e).trans r.Wl,(by5 Mc.Be e).trans r.Be,(by5 Mc.Od e).trans r.Od,r.le⟩
def Fb(p:Pm)(pt:Int)(j:Option Nat)(q:Int)(m:Mc):Prop:=match j with
 |none=>Re p pt m
 |some k=>Lo p pt k q m
theorem Fb.same(r:Fb p pt j q m)(e:vx m'=vx m):Fb p pt j q m':=by
 cases j with
 |none=>exact Re.same r e
 |some k=>exact Lo.same r e
structure Bn (K:Nat->Nat) (p:Pm) (t:Nat) (pt:Int) (j:Option Nat) (q:Int) (m:Mc):Prop where
 bo:Bo K p t pt m
 fe:Fb p pt j q m
theorem Bn.same(r:Bn K p t pt j q m)(e:vx m'=vx m)(o:m'.Ok):Bn K p t pt j q m':=⟨r.bo.same e o,r.fe.same e⟩
theorem Fb.ph(r:Fb p pt j q m):m.phase=1∨m.phase=2:=by
 cases j with
 |none=>exact bo1 (Re.ph r)
 |some k=>exact bo3 (Lo.ph r)
theorem Fb.lK(r:Fb p pt j q m):m.lK=true/\m.ended=false:=by
 unfold Mc.lK Mc.ended
 rcases r.ph with e|e<;>rw[e]<;>exact⟨rfl,rfl⟩
def pkP(p:Pm)(i f t:Int)(L:ByteArray):ByteArray:=Ip.Db i 64 17 167772215 p.nx (Ud.sH f t 167772215 p.nx L)
def be0(p:Pm)(i f t:Int)(L:ByteArray):ByteArray:=og.ni ([2,0,0,0,0,7]++ [2,0,0,0,0,42]) 2048 (pkP p i f t L)
def tP(p:Pm)(i:Int)(m:Mc):ByteArray:=be0 p i m.sF m.sT m.sL
def inP(p:Pm)(id q pt:Int)(L:ByteArray):ByteArray:=og.ni [2,0,0,0,0,42,2,0,0,0,0,7] 2048 (Ip.Db id 9 17 p.nx 167772215 (Ud.sH q pt p.nx 167772215 L))
theorem bO3(p:Pm)(i f t':Int)(L:ByteArray):(pkP p i f t' L).size<=1500:=(Ye i 167772215 p.nx f t' L).1
theorem bN3(p:Pm)(i f t':Int)(L:ByteArray):(pkP p i f t' L).toList.isEmpty=false:=by
 unfold pkP;rw[Zg _ _ _ _ _ _ (by decide) (Ye i 167772215 p.nx f t' L).2,bq0];show(Ip.Ls _ _ _ _ _ _).isEmpty=false;have hl:(Ip.Ls i 64 17 167772215 p.nx (Ud.sH f t' 167772215 p.nx L)).length≠0:=by
  rw[Ip.Ls,bn6,Ip.jY];omega
 cases hc:Ip.Ls i 64 17 167772215 p.nx (Ud.sH f t' 167772215 p.nx L)with
 |nil=>rw[hc]at hl;exact absurd rfl hl
 |cons _ _=>rfl
theorem bG5(p:Pm)(id q pt:Int)(L:ByteArray):(inP p id q pt L).size<=2000:=by
 unfold inP;have h1:(Ud.sH q pt p.nx 167772215 L).size<=1480:=WI _ _ _ _ _;exact bo6 (Xj 2 0 0 0 0 42 2 0 0 0 0 7 2048 _ (by decide) (ah0 id _ _ _ h1)).2 (by decide)
def Kw(m:Mc):Prop:=∃x:Nb,m.cd=ak x/\KX x/\x.load=⟨#[]⟩
def Ce(m:Mc):Prop:=m.cd=.map []∨Kw m
def Pe(p:Pm)(a ua:Int)(m:Mc):Prop:=∃(x:Nb) (i:Int),m.cd=ak x/\x.asks=a/\x.till=ua/\bQ i/\x.load=pkP p i m.sF m.sT m.sL
theorem Kw.cd(k:Kw m)(e:m'.cd=m.cd):Kw m':=by
 obtain⟨x,e1,e2⟩:=k;exact⟨x,e.trans e1,e2⟩
theorem Ce.cd(k:Ce m)(e:m'.cd=m.cd):Ce m':=k.imp (fun q=>e.trans q) (fun q=>q.cd e)
theorem Pe.cd{a ua:Int}(k:Pe p a ua m)(e:m'.cd=m.cd)(e1:m'.sF=m.sF)(e2:m'.sT=m.sT)(e3:m'.sL=m.sL):Pe p a ua m':=by
 obtain⟨x,i,h1,h2,h3,h4,h5⟩:=k;exact⟨x,i,e.trans h1,h2,h3,h4,by rw[e1,e2,e3];exact h5⟩
theorem X6{x y:Nb}(e:ak x=ak y):x.asks=y.asks:=by
 have hh:=by5 (fun D:DataW Unit=>D.atKey (.int .u32 167772161) bC.d) e;have hd:x.d=y.d:=hh;unfold Nb.d at hd;injection hd with hd
 injection hd with hd
 injection hd with hd
 injection hd with _ hd
structure Sm (m2 m:Mc):Prop where
 e:vx m2=vx m
 ok:m2.Ok
 cd:m2.cd=m.cd
 gq:m2.gq=m.gq
def Ev(K:Nat->Nat)(f:ByteArray)(m:Mc)(Z:Mc->Prop):Prop:=∀m2,Sm m2 m->(m2.ended=true->Z m2)/\(m2.ended=false->FrZ K m2 f (fun mz=>Z mz/\mz.cq=m2.cq))
theorem Ev.mono{f:ByteArray}{Z Z':Mc->Prop}(q:Ev K f m Z)(h:∀x,Z x->Z' x):Ev K f m Z':=fun m2 s=>⟨fun e=>h _ ((q m2 s).1 e),fun e=>((q m2 s).2 e).mono (fun x hx=>⟨h x hx.1,hx.2⟩)⟩
theorem bQ5(ho:m.Ok)(hq:m.cq=[])(hr:0<m.rx)(f:ByteArray):Sm (m.put f).jP m:=by
 have e:(m.put f).jP={m with cf:=(m.cf+1)%m.rx}:=Y9 hq hr;rw[e];exact⟨rfl,⟨ho.1,ho.2,ho.3,ho.4,ho.5,ho.6,ho.7,ho.8,ho.9,ho.10,ho.11,ho.12,ho.13,ho.14,ho.15,ho.16⟩,rfl,rfl⟩
theorem bO9(hq:m.cq=[])(hr:0<m.rx)(f:ByteArray):(m.put f).jP.cq=[]:=by
 have e:(m.put f).jP={m with cf:=(m.cf+1)%m.rx}:=Y9 hq hr;rw[e];exact hq
theorem bM2{f:ByteArray}{Z:Mc->Prop}(ho:m.Ok)(hq:m.cq=[])(hr:m.rx=16)(E:Ev K f m Z):bd9 (Tk K) (m.put f) (fun mz=>Z mz/\mz.cq=[]):=by
 have hr0:0<m.rx:=by rw[hr];decide
 have s:=bQ5 ho hq hr0 f;have hc:=bO9 hq hr0 f;refine bH3 (s:=f) (Zq hq hr0) _ ⟨fun e=>⟨(E _ s).1 e,hc⟩,fun e=>((E _ s).2 e).mono (fun x hx=>⟨hx.1,hx.2.trans hc⟩)⟩ (fun mz z=>z.2)
theorem bP2{f:ByteArray}(hq:m.cq=[])(hr:m.rx=16):((m.put f).put f).cq=[f,f]/\((m.put f).put f).jP={m with cf:=(m.cf+1)%m.rx,cq:=[f]}:=by
 cases m
 dsimp only at hq hr;subst hq hr;exact⟨rfl,rfl⟩
theorem bK3{f:ByteArray}{Z1 Z:Mc->Prop}(ho:m.Ok)(hq:m.cq=[])(hr:m.rx=16)(E:Ev K f m Z1)(E2:∀m1,Z1 m1->Ev K f m1 Z)(hOk:∀m1,Z1 m1->m1.Ok/\m1.rx=16):bd9 (Tk K) ((m.put f).put f) (fun mz=>Z mz/\mz.cq=[]):=by
 obtain⟨e1,e3⟩:=bP2 (f:=f) hq hr;have s:Sm ((m.put f).put f).jP m:=by
  rw[e3];exact⟨rfl,⟨ho.1,ho.2,ho.3,ho.4,ho.5,ho.6,ho.7,ho.8,ho.9,ho.10,ho.11,ho.12,ho.13,ho.14,ho.15,ho.16⟩,rfl,rfl⟩
 have hc:((m.put f).put f).jP.cq=[f]:=by rw[e3]
 refine bH1 (s:=f) e1 (fun mz=>Z1 mz/\mz.cq=[f]) _ ⟨fun e=>⟨(E _ s).1 e,hc⟩,fun e=>((E _ s).2 e).mono (fun x hx=>⟨hx.1,hx.2.trans hc⟩)⟩ (fun mz z=>⟨z.2,?_⟩);obtain⟨o1,r1⟩:=hOk mz z.1;have s2:Sm mz.jP mz:=by
  unfold Mc.jP;rw[z.2];exact⟨rfl,⟨o1.1,o1.2,o1.3,o1.4,o1.5,o1.6,o1.7,o1.8,o1.9,o1.10,o1.11,o1.12,o1.13,o1.14,o1.15,o1.16⟩,rfl,rfl⟩
 have c2:mz.jP.cq=[]:=by unfold Mc.jP;rw[z.2]
 exact⟨fun e=>⟨(E2 mz z.1 _ s2).1 e,c2⟩,fun e=>((E2 mz z.1 _ s2).2 e).mono (fun x hx=>⟨hx.1,hx.2.trans c2⟩)⟩
def FuB(t:Nat)(f fu:Int):Prop:=(t:Int)+2*2 ^ f.toNat-1<=fu/\fu<=(t:Int)+2*2 ^ f.toNat+1
theorem bJ6(hn:m.now=(t:Int))(hf:0<=m.fs/\m.fs<=3)(ht:t<=90000):FuB t m.fs m.WS.fu:=by
 have h0:(2:Int) ^ m.fs.toNat<=8/\1<=(2:Int) ^ m.fs.toNat:=by
  have:m.fs.toNat<=3:=by omega
  rcases(show m.fs.toNat=0∨m.fs.toNat=1∨m.fs.toNat=2∨m.fs.toNat=3 by omega)with e|e|e|e<;>rw[e]<;>decide
 have h1:0<=m.draw%3/\m.draw%3<=2:=by omega
 unfold FuB;show(t:Int)+2*2 ^ m.fs.toNat-1<=wrap64 (m.now+(2*2 ^ m.fs.toNat+m.draw%3-1))/\wrap64 (m.now+(2*2 ^ m.fs.toNat+m.draw%3-1))<=_;rw[hn];generalize(2:Int) ^ m.fs.toNat=z at h0;generalize m.draw%3=y at h1;rw[BL _ (by omega)];omega
end Ho
namespace Js
open Bs
variable{w0:fV} {P:Nat→Prop} {w w':fV} {B:Nat} {m m':Mc} {R:fV→(Nat→Prop)→Prop}
theorem bG3(h:Mx w0 P w B m)(op:Int)(f0 f1 f2 f3 f4 f5:UInt8)(fip t0 t1 t2 t3 t4 t5 tip:Int)(h0:fip≠0)(h1:fip≠m.addr)(hr:Room m.cd fip)(x:Nb)(hx:m.cd.atKey (.int .u32 fip) bC.d=x.d)(hn:Maps.has m.cd (.int .u32 fip)=true)(hw:x.load=⟨#[]⟩):
  f_ Vh 185 #[p_ B,.agg (rE op f0.toNat f1.toNat f2.toNat f3.toNat f4.toNat f5.toNat fip t0 t1 t2 t3 t4 t5 tip)] w fun ee w'=>ee=.returned (.tuple #[])/\Mx w0 P w' B (m.knows fip f0 f1 f2 f3 f4 f5):=by
 have HA:=Fe (YO (h.alloc (.cells (rE op f0.toNat f1.toNat f2.toNat f3.toNat f4.toNat f5.toNat fip t0 t1 t2 t3 t4 t5 tip) 87)));have HM:=Fe h;have hf3:(fip==0)=false:=by simpa using h0
 have hf4:(fip==m.addr)=false:=by simpa using h1
 have HL:Hid (∀u,Mx w0 P u B m->(Instr.lookup 102 (.map (some m.bm)) (.int .u32 fip) true).run Vh u=.ok (.tuple #[.agg (rM x.asks x.k0.toNat x.k1.toNat x.k2.toNat x.k3.toNat x.k4.toNat x.k5.toNat x.till x.load),.bool true]) u):=Fe (fun u hu=>by have r:=YE (D:=m.cd) hu.map _ hr.1 x hx;rw[hn]at r;exact r);have HK:Hid (∀u,Mx w0 P u B m->f_ Vh 134 #[.map (some m.bm),.int .u32 fip,.agg (rM 0 f0.toNat f1.toNat f2.toNat f3.toNat f4.toNat f5.toNat (IntKind.i64.wrap (m.now+60)) ⟨#[]⟩)] u fun ee w'=>ee=.returned (.tuple #[])/\Mx w0 P w' B (m.knows fip f0 f1 f2 f3 f4 f5)/\PU u w' m.bm):=Fe (fun u hu=>by rw[az9];exact Z6 hu hr ⟨0,f0,f1,f2,f3,f4,f5,wrap64 (m.now+60),⟨#[]⟩⟩);have HBM:Hid (m.bm<w.heap.size):=Fe (h.ik (bo3 (bo1 rfl)));have HWE:=Fe hw;clear h hr hx hn hw;go_enter func185,ntmps185;go_wp2;go_quiet (first|(go_at_call 47;exact bp9 (HA _)));go_wp2;obtain⟨v,hv⟩:=ex_ ((w.alloc (.cells (rE op f0.toNat f1.toNat f2.toNat f3.toNat f4.toNat f5.toNat fip t0 t1 t2 t3 t4 t5 tip) 87)).drewN nq);have HV:Hid (Mx w0 P v B m):=Fe (by rw[hv];exact(HM.alloc _).like ⟨rfl,rfl,rfl,rfl⟩);have hrow:v.heap[w.heap.size]?=some (.cells (rE op f0.toNat f1.toNat f2.toNat f3.toNat f4.toNat f5.toNat fip t0 t1 t2 t3 t4 t5 tip) 87 (0,0)):=by rw[hv];exact bn3 w _
 have HRW:=Fe hrow;have c7:v.cell? (a_ w.heap.size 7)=some (.int .u32 fip):=bn0 _ _ 7 _ _ _ hrow;have c0v:v.cell? (a_ B 0)=some (.map (some m.bm)):=HV.c0;have hnv:B≠v.heap.size:=bo5 HV.lt;have hbx:w.heap.size≠v.heap.size:=bo5 (gG hrow);have hbl:w.heap.size<v.heap.size:=gG hrow;have hBl:B<v.heap.size:=HV.lt;rw[<-hv];clear hv HA HM hrow;have hL1:=HL v HV;have hL2:=HL v.drew HV.drew;have hL3:=HL (v.alloc (.cells zM_ 157)) (HV.alloc _);have hL4:=HL (v.alloc (.cells zM_ 157)).drew (HV.alloc _).drew;have c7a:(v.alloc (.cells zM_ 157)).cell? (a_ w.heap.size 7)=some (.int .u32 fip):=(bo7 (bn8 v _ _ hbl)).trans c7;have c0a:(v.alloc (.cells zM_ 157)).cell? (a_ B 0)=some (.map (some m.bm)):=(bo7 (bn8 v _ _ HV.lt)).trans c0v;go_cut [4,5] (fun s4 s5 wc=>s4=(p_ v.heap.size)/\s5=.bool true/\Hid (Mx w0 P wc B m/\wc.heap[v.heap.size]?=some (.cells (rM x.asks x.k0.toNat x.k1.toNat x.k2.toNat x.k3.toNat x.k4.toNat x.k5.toNat x.till x.load) 157 (0,0))/\wc.heap[w.heap.size]?=some (.cells (rE op f0.toNat f1.toNat f2.toNat f3.toNat f4.toNat f5.toNat fip t0 t1 t2 t3 t4 t5 tip) 87 (0,0))));case first=>
  go_region
  all_goals go_wp2
  all_goals go_meet
  all_goals exact⟨rfl,rfl,Fe ⟨(HV.alloc _).like ⟨rfl,rfl,rfl,rfl⟩,bn3 v _,(bn8 v _ _ hbl).trans HRW⟩⟩
 rename fV=>y;obtain⟨rfl,rfl,HC⟩:=hcut;have HY:=Fe HC.1;have HYX:=Fe HC.2.1;have HYA:=Fe HC.2.2;have HNB:Hid (v.heap.size≠m.bm/\w.heap.size≠m.bm):=Fe ⟨fun e=>by have:=HV.ik (bo3 (bo1 e));omega,fun e=>by have:=gB HBM;omega⟩;clear HC HL hL1 hL2 hL3 hL4 c7 c7a c0a c0v HV HRW;go_wp2;go_region_held3 (fun u=>c_ u B 0 (.map (some m.bm))/\c_ u B 14 (.int .i64 m.now)/\c_ u w.heap.size 1 (.int .u8 f0.toNat)/\c_ u w.heap.size 2 (.int .u8 f1.toNat)/\c_ u w.heap.size 3 (.int .u8 f2.toNat)/\c_ u w.heap.size 4 (.int .u8 f3.toNat)/\c_ u w.heap.size 5 (.int .u8 f4.toNat)/\c_ u w.heap.size 6 (.int .u8 f5.toNat)/\c_ u w.heap.size 7 (.int .u32 fip)) (first|exact⟨HY.c0,HY.c14,ad7 HYA⟩|exact⟨HY.drew.c0,HY.drew.c14,ad7 HYA⟩|exact⟨H1.c0,H1.c14,ad7 HR⟩)
  (first|(go_at_call 134;refine(HK _ HY.drew).mono ?_;rintro ee u ⟨rfl,h1,t1⟩;have H1:=Fe h1;have HR:=Fe (t1.cells HYA HNB.2);have HRX:=Fe (t1.cells HYX HNB.1);clear h1 t1))
 have x8:u.cell? (a_ v.heap.size 8)=some (.string ⟨#[]⟩):=by rw[<-gB HWE];exact bn0 _ _ 8 _ _ _ HRX
 obtain⟨y1,y2,y3,y4,y5,y6,y7⟩:=ad7 HR;clear HY HYX HYA HK HNB;go_wp2;go_returns
 exact⟨rfl,H1⟩
theorem bi9(h:Mx w0 P w B m)(hn3:m.st≠3)(load:ByteArray)(op:Int)(f0 f1 f2 f3 f4 f5:UInt8)(fip t0 t1 t2 t3 t4 t5 tip:Int)(hop:op≠1)(h0:fip≠0)(h1:fip≠m.addr)(hr:Room m.cd fip)(x:Nb)(hx:m.cd.atKey (.int .u32 fip) bC.d=x.d)(hn:Maps.has m.cd (.int .u32 fip)=true)(hw:x.load=⟨#[]⟩)
  (hR:∀u,f_ Vh 63 #[.string load] u fun e w'=>e=.returned (.tuple #[.agg (rE op f0.toNat f1.toNat f2.toNat f3.toNat f4.toNat f5.toNat fip t0 t1 t2 t3 t4 t5 tip),.int .i64 0])/\gm u.heap.size u w'):
  f_ Vh 145 #[p_ B,.string load] w fun ee w'=>ee=.returned (.tuple #[])/\Mx w0 P w' B (m.knows fip f0 f1 f2 f3 f4 f5):=by
 have HR:=Fe (hR w);have HM:=Fe h;clear hR h;go_enter func145,ntmps145;go_wp2_with fail;refine on_ HR fun u1 hb1=>?_;have HNF: ¬iq B m u1.heap.size:=fun hf=>bu3 _ ((HM.below hb1).ik hf);have HM1:=Fe ((HM.below hb1).alloc (.cells (rE op f0.toNat f1.toNat f2.toNat f3.toNat f4.toNat f5.toNat fip t0 t1 t2 t3 t4 t5 tip) 87));clear hb1 HR HM;have HR1:Hid ((u1.alloc (.cells (rE op f0.toNat f1.toNat f2.toNat f3.toNat f4.toNat f5.toNat fip t0 t1 t2 t3 t4 t5 tip) 87)).heap[u1.heap.size]?=some (.cells (rE op f0.toNat f1.toNat f2.toNat f3.toNat f4.toNat f5.toNat fip t0 t1 t2 t3 t4 t5 tip) 87 (0,0))):=Fe (bn3 u1 _);have HC1:=Fe (Ar HM1 hn3 op f0.toNat f1.toNat f2.toNat f3.toNat f4.toNat f5.toNat fip t0 t1 t2 t3 t4 t5 tip);go_wp2_with fail;refine on_ HC1 fun u2 hb2=>?_;have HM2:=Fe (HM1.below hb2);have HR2:=Fe ((hb2.block u1.heap.size (gG HR1)).trans HR1);clear hb2 HC1 HM1 HR1;obtain⟨x0,x1,x2,x3,x4,x5,x6,x7,x8,x9,x10,x11,x12,x13,x14⟩:=oZ HR2;have HC2:=Fe (bG3 HM2.base op f0 f1 f2 f3 f4 f5 fip t0 t1 t2 t3 t4 t5 tip h0 h1 hr x hx hn hw);go_wp2_with fail;refine on_ HC2 fun u3 hk3=>?_;have HM3:=Fe (HM2.join hk3);have HR3:=Fe ((hk3.kept u1.heap.size (gG HR2) HNF).trans HR2);clear hk3 HC2 HM2 HR2 x0 x1 x2 x3 x4 x5 x6 x7 x8 x9 x10 x11 x12 x13 x14;obtain⟨x0,x1,x2,x3,x4,x5,x6,x7,x8,x9,x10,x11,x12,x13,x14⟩:=oZ HR3;have HC3:=Fe (aj1 HM3 hop f0.toNat f1.toNat f2.toNat f3.toNat f4.toNat f5.toNat fip t0 t1 t2 t3 t4 t5 tip);go_wp2_with fail;refine on_ HC3 fun u4 hb4=>?_;have HM4:=Fe (HM3.below hb4);clear hb4 HC3 HM3 HR3;go_wp2;go_returns
 exact⟨rfl,HM4⟩
theorem bH5(h:Mx w0 P w B m)(hr:R w0 P)(hB:Base R B)(hn3:m.st≠3)(f0 f1 f2 f3 f4 f5:UInt8)(fip:Int)(h0:fip≠0)(h1:fip≠m.addr)(hb:0<=fip/\fip<=4294967295)(ha:0<=m.addr/\m.addr<=4294967295)(hro:Room m.cd fip)(x:Nb)(hx:m.cd.atKey (.int .u32 fip) bC.d=x.d)(hn:Maps.has m.cd (.int .u32 fip)=true)(hw:x.load=⟨#[]⟩):
  f_ Vh 54 #[p_ B,.string (og.ni [m.k0,m.k1,m.k2,m.k3,m.k4,m.k5,f0,f1,f2,f3,f4,f5] 2054 (WM.vE 2 [f0,f1,f2,f3,f4,f5] fip [m.k0,m.k1,m.k2,m.k3,m.k4,m.k5] m.addr))] w fun ee w'=>ee=.returned (.tuple #[])/\∃mz,mz=m.knows fip f0 f1 f2 f3 f4 f5/\Mx w0 P w' B mz:=
 JW h hr hB f0 f1 f2 f3 f4 f5 _ (by
  unfold WM.vE;rw[show WM.Dp 2=true from rfl];show(WM.GJ _ _ _ _ _).toArray.size<=1500;rw[bt3];simp[WM.GJ,iy,g_,iY]) _ (fun w0 P u hr hu=>by
  refine on_ (bi9 hu hn3 _ 2 f0 f1 f2 f3 f4 f5 fip _ _ _ _ _ _ m.addr (by decide) h0 h1 hro x hx hn hw (fun u=>Ho.aG0 2 fip m.addr f0 f1 f2 f3 f4 f5 m.k0 m.k1 m.k2 m.k3 m.k4 m.k5 (bo3 rfl) hb ha u)) fun w' hm=>?_;exact⟨rfl,_,rfl,hm⟩)
end Js
namespace Js
open Bs
variable{w0:fV} {P:Nat→Prop} {w w':fV} {B:Nat} {m m':Mc} {K:Nat→Nat}
theorem bi3(h:Mx w0 P w B m)(hph:m.phase=2)(op bl:Int)(hbl:bl≠m.TE)(ts ds:ByteArray)(sl:Value)(pt:Int)(hl:(ds.size:Int)<=m.Be)(Z:fV->Prop)
  (HB:∀u,Mx w0 P u B m->f_ Vh 270 #[p_ B] u fun ee w'=>ee=.returned (.tuple #[])/\Z w'):
  f_ Vh 249 #[p_ B,.agg #[.int .u16 op,.int .u16 bl,.string ts,.string ds,sl,.int .u16 pt]] w fun ee w'=>ee=.returned (.tuple #[])/\Z w':=by
 have HBB:=Fe HB;obtain⟨X,hX⟩:=ex_ (w.alloc (.cells #[.int .u16 op,.int .u16 bl,.string ts,.string ds,sl,.int .u16 pt] 274));have HX:Hid (Mx w0 P X B m):=Fe (by rw[hX];exact h.alloc _);have hXr:X.heap[w.heap.size]?=some (.cells #[.int .u16 op,.int .u16 bl,.string ts,.string ds,sl,.int .u16 pt] 274 (0,0)):=by rw[hX];exact bn3 w _
 obtain⟨l0,l1,l2,l3,l4,l5⟩:=yO hXr;have c40:=h.c40;rw[hph]at c40;have hlt:=h.lt;have hB:B≠w.heap.size:=bo5 hlt;have Ue:=HX.Ue;have c46:=HX.c46;have c8:=HX.c8;have RX:=HX.RX;obtain⟨ao,cp,hv⟩:=Dh.ib h.image;rw[hv]at RX;have hgt:decide (m.Be<(ds.size:Int))=false:=by simpa using hl
 have hnb:(bl==m.TE)=false:=by simpa using hbl
 clear h HB hXr hph hv hbl;go_enter func249,ntmps249;go_wp2;rw[<-hX];clear hX c40;go_quiet (fail);go_wp2;go_quiet (fail);go_wp2_with fail;refine bt1 (HBB _ ?_) ?_;exact HX.like ⟨rfl,rfl,rfl,rfl⟩;rintro ee u ⟨rfl,h4⟩;have H4:=Fe h4;clear h4;go_wp2;go_end0;exact⟨rfl,H4⟩
theorem bi7{m0:Mc}{bl pt:Int}(h:Mx w0 P w B m0)(hph:m0.phase=1)(hbl:bl=1)(hm0:m=m0.Xn pt)(op:Int)(ts ds:ByteArray)(sl:Value)(hl:(ds.size:Int)<=m.Be)(hn:bl=m.TE)(hc:(m.ql.length:Int)+ds.size<=m.cap)(hz:m.ql.length+ds.size<=100000000)(Z:Mc->Prop)
  (HB0:∀u,Mx w0 P u B m->f_ Vh 271 #[p_ B,.string ds] u fun ee w'=>ee=.returned (.tuple #[])/\∃mz,Z mz/\Mx w0 P w' B mz):
  f_ Vh 249 #[p_ B,.agg #[.int .u16 op,.int .u16 bl,.string ts,.string ds,sl,.int .u16 pt]] w fun ee w'=>ee=.returned (.tuple #[])/\∃mz,Z mz/\Mx w0 P w' B mz:=by
 have HBB:=Fe HB0;obtain⟨W,hW⟩:=ex_ (w.alloc (.cells #[.int .u16 op,.int .u16 bl,.string ts,.string ds,sl,.int .u16 pt] 274));have HMW:Hid (Mx w0 P W B m0):=Fe (by rw[hW];exact h.alloc _);have HWr:Hid (W.heap[w.heap.size]?=some (.cells #[.int .u16 op,.int .u16 bl,.string ts,.string ds,sl,.int .u16 pt] 274 (0,0))):=Fe (by rw[hW];exact bn3 w _);have HL:Hid (∀u,Mx W (iq B m0) u B m0->f_ Vh 269 #[p_ B,.int .u16 pt] u fun ee w'=>ee=.returned (.tuple #[])/\Mx W (iq B m0) w' B m):=Fe (fun u hu=>by rw[hm0];exact ae2 hu pt);have c40:=h.c40;rw[hph]at c40;have hlt:=h.lt;have hB:B≠w.heap.size:=bo5 hlt;have HNF:Hid (¬iq B m0 w.heap.size):=Fe (fun hf=>bu3 _ (h.ik hf));have hbb:(bl==1)=true:=by simpa using hbl
 have hgt:decide (m.Be<(ds.size:Int))=false:=by simpa using hl
 have hnb:(bl==m.TE)=true:=by simpa using hn
 have hgc:decide (m.cap<(m.ql.length:Int)+ds.size)=false:=by simpa using hc
 clear h HB0 hph hm0 hbl hn;go_enter func249,ntmps249;go_wp2_with fail;rw[<-hW];refine on_ (HL _ HMW.base) fun X hx=>?_;have HX:=Fe (HMW.join hx);obtain⟨l0,l1,l2,l3,l4,l5⟩:=yO ((hx.kept _ (bo2 HWr) HNF).trans HWr);have Ue:=HX.Ue;have c46:=HX.c46;have c8:=HX.c8;have RX:=HX.RX;obtain⟨ao,cp,hv⟩:=Dh.ib HX.image;rw[hv]at RX;clear hx hW HL HMW HWr c40 hv HNF hbb;go_wp2;go_quiet (fail);go_wp2;go_quiet (fail);go_wp2;go_quiet (fail);go_wp2_with fail;refine bt1 (HBB _ ?_) ?_;exact HX.like ⟨rfl,rfl,rfl,rfl⟩;rintro ee u9 ⟨rfl,mz,hzz,h4⟩;have H4:=Fe h4;have HZ:=Fe hzz;clear h4 hzz;go_wp2;go_end0;exact⟨rfl,mz,HZ,H4⟩
theorem bg3(h:Mx w0 P w B m)(hph:m.phase=2)(op bl:Int)(ts ds:ByteArray)(sl:Value)(pt:Int):f_ Vh 248 #[p_ B,.agg #[.int .u16 op,.int .u16 bl,.string ts,.string ds,sl,.int .u16 pt]] w fun ee w'=>ee=.returned (.tuple #[])/\Mx w0 P w' B m:=by
 have HX:=Fe (h.alloc (.cells #[.int .u16 op,.int .u16 bl,.string ts,.string ds,sl,.int .u16 pt] 274));have c40:=h.c40;rw[hph]at c40;have hlt:=h.lt;have hB:B≠w.heap.size:=bo5 hlt;clear h hph;go_enter func248,ntmps248;go_wp2;go_returns
 exact⟨rfl,HX⟩
def bN7(K:Nat->Nat)(B:Nat)(m:Mc)(D:List UInt8)(Z:Mc->Prop):Prop:=∀(w0:fV) (P:Nat->Prop) (u:fV),Tk K w0 P->Mx w0 P u B m->f_ Vh 271 #[p_ B,.string ⟨D.toArray⟩] u fun ee w'=>ee=.returned (.tuple #[])/\∃mz,Z mz/\Mx w0 P w' B mz
variable{D:List UInt8}
theorem bM8(t:ah1 m D)(hl: ¬(D.length:Int)<m.Be)(hs:wrap64 (m.since+1)≠m.Od):bN7 K B m D (fun mz=>∃v,mz=(m.got v D).withheld):=fun w0 P u hr hu=>by
 refine on_ (Zp hu ⟨D.toArray⟩ (by rw[WU];exact t.small) (by rw[WU];exact hl) hs (fun v=>ad2 t.ok v _)) ?_;rintro w' ⟨v,hv⟩;exact⟨rfl,_,⟨v,rfl⟩,hv⟩
theorem bN0(t:ah1 m D)(x:Nb)(hx:Hop m x)(hl: ¬(D.length:Int)<m.Be)(hs:wrap64 (m.since+1)=m.Od):bN7 K B m D (fun mz=>∃v,mz=(m.got v D).answered x):=fun w0 P u hr hu=>by
 refine on_ (ZK hu ⟨D.toArray⟩ (by rw[WU];exact t.small) (by rw[WU];exact hl) hs (fun v=>(m.got v D).answered x) (fun v u2 hu2=>Xy hu2 (ad2 t.ok v _) t.port t.Wl x hx.rg hx.at' hx.has hx.known)) ?_;rintro w' ⟨v,hv⟩;exact⟨rfl,_,⟨v,rfl⟩,hv⟩
theorem bO2(t:ah1 m D)(x:Nb)(hx:Hop m x)(hl:(D.length:Int)<m.Be)(hz:m.ql.length+D.length<=1048576)(hd:m.gQ.data.toList=Hs.Xk K (m.ql++D)):bN7 K B m D (fun mz=>∃v,mz=((m.got v D).answered x).done):=fun w0 P u hr hu=>by
 refine(Zz hu ⟨D.toArray⟩ (by rw[WU];exact t.small) (by rw[WU];exact hl) (fun v=>(m.got v D).answered x) (fun v u2 hu2=>Xy hu2 (ad2 t.ok v _) t.port t.Wl x hx.rg hx.at' hx.has hx.known) (fun v=>((m.got v D).answered x).done) (fun v u2 hu2=> ?_)).mono ?_
 ·have e1:((m.got v D).answered x).ql=m.ql++D:=ZR _ _
  have e2:((m.got v D).answered x).gQ=m.gQ:=ac6 _ _;exact an4 hu2 K (hr.at hu2) hr.hk (by rw[e1,bn6];exact hz) (by rw[e1,e2];exact hd)
 rintro ee w' ⟨rfl,v,hv⟩;exact⟨rfl,_,⟨v,rfl⟩,hv⟩
theorem bQ0(hr:Tk K w0 P)(hu:Mx w0 P w B m)(hb:gm w.heap.size w w'):Tk K w' (iq B m):=by
 have t1:=Tk.base _ _ _ _ hr hu;exact⟨⟨t1.tq.1.below hb (bn7 _),t1.tq.2⟩,t1.rg.below hb t1.rg.lt,t1.nr,t1.hk⟩
theorem bF9{f:Int}(t:ah1 (m.Xn f) D)(h1:m.phase=1)(hn:m.TE=1)(Z:Mc->Prop)(HB:bN7 K B (m.Xn f) D Z):Looks (Tk K) 3 1 ⟨#[]⟩ ⟨D.toArray⟩ 0 [] f B m Z:=by
 intro w0 P u sa sc g b hr hu hfoot hown hg hgF;refine ag0 hu g 3 hg hgF 3 1 ⟨#[]⟩ ⟨D.toArray⟩ (.slice sa 0 sc) f Z (fun w0' P' u' hb hu'=> ?_);have hr':Tk K u' (iq B m):=bQ0 hr hu hb;refine on_ (bi7 hu'.base h1 rfl rfl 3 ⟨#[]⟩ ⟨D.toArray⟩ (.slice sa 0 sc) (by rw[WU];exact t.len) hn.symm (by rw[WU];exact t.cap) (by rw[WU];exact t.small) Z (fun u2 hu2=>HB u' (iq B m) u2 hr' hu2)) ?_;rintro w' ⟨mz,hz,hm⟩;exact⟨rfl,mz,hz,hu'.join hm⟩
theorem bG9{f:Int}(t:ah1 m D)(x:Nb)(hx:Hop m x)(bl:Int)(hbl:bl≠m.TE):Looks (Tk K) 3 bl ⟨#[]⟩ ⟨D.toArray⟩ 0 [] f B m (fun mz=>mz=m.answered x):=by
 intro w0 P u sa sc g b hr hu hfoot hown hg hgF;refine ag0 hu g 3 hg hgF 3 bl ⟨#[]⟩ ⟨D.toArray⟩ (.slice sa 0 sc) f _ (fun w0' P' u' hb hu'=> ?_);refine on_ (bi3 hu'.base t.phase 3 bl hbl ⟨#[]⟩ ⟨D.toArray⟩ (.slice sa 0 sc) f (by rw[WU];exact t.len) (fun w'=>Mx u' (iq B m) w' B (m.answered x)) (fun u2 hu2=>Xy hu2 t.ok t.port t.Wl x hx.rg hx.at' hx.has hx.known)) fun w' hm=>?_;exact⟨rfl,_,rfl,hu'.join hm⟩
theorem bG8{f:Int}{bl:Int}{ts ds:ByteArray}{n:Nat}{xs:List Value}(h2:m.phase=2):Looks (Tk K) 6 bl ts ds n xs f B m (fun mz=>mz=m):=by
 intro w0 P u sa sc g b hr hu hfoot hown hg hgF;refine Zx hu g 3 hg hgF 6 bl ts ds (.slice sa n sc) f _ (fun w0' P' u' hb hu'=> ?_);refine on_ (bg3 hu' h2 6 bl ts ds (.slice sa n sc) f) fun w' hm=>?_;exact⟨rfl,_,rfl,hm⟩
theorem bj1{R:fV->(Nat->Prop)->Prop}(h:Mx w0 P w B m)(hr:R w0 P)(hB:Base R B)(ho:m.Ok)(h1:m.st≠1)(a1 a2 a3 a4 a5 a6:UInt8)(id fr ta yo ne:Int)(a b c d a' b' c' d':UInt8)(hid:0<=id/\id<=65535)(hf:0<=fr/\fr<=4294967295)(ht:0<=ta/\ta<=4294967295)(hy:0<=yo/\yo<=4294967295)(hn:0<=ne/\ne<=4294967295):
  f_ Vh 54 #[p_ B,.string (og.ni [m.k0,m.k1,m.k2,m.k3,m.k4,m.k5,a1,a2,a3,a4,a5,a6] 2048 (Ip.Db id 9 17 fr ta (Ud.sH 67 68 fr ta (Dh.nH true m.gF 0 yo ne [m.k0,m.k1,m.k2,m.k3,m.k4,m.k5] (Ws 2 [a,b,c,d] [a',b',c',d'])))))] w fun ee w'=>ee=.returned (.tuple #[])/\∃mz,mz=m/\Mx w0 P w' B mz:=
 IQ h hr hB a1 a2 a3 a4 a5 a6 id 67 fr ta _ hid (by decide) hf ht (ad6 _ _ _ _ _ _ _) _ (ag8 2 a b c d a' b' c' d' yo ne ho.gF hy hn _ (bo1 rfl) (fun sa sc w0 P u hu hA=>by
  refine on_ (v_ hu h1 true m.gF 0 yo ne _ _ _ _ _ _ sa 5 sc (vK a b c d)) fun w' hm=>?_;exact⟨rfl,_,rfl,hm⟩))
theorem bF6{R:fV->(Nat->Prop)->Prop}(h:Mx w0 P w B m)(hr:R w0 P)(hB:Base R B)(ho:m.Ok)(h1:m.st=3)(a1 a2 a3 a4 a5 a6:UInt8)(id fr ta yo ne:Int)(a b c d a' b' c' d':UInt8)(hid:0<=id/\id<=65535)(hf:0<=fr/\fr<=4294967295)(ht:0<=ta/\ta<=4294967295)(hy:0<=yo/\yo<=4294967295)(hn:0<=ne/\ne<=4294967295):
  f_ Vh 54 #[p_ B,.string (og.ni [m.k0,m.k1,m.k2,m.k3,m.k4,m.k5,a1,a2,a3,a4,a5,a6] 2048 (Ip.Db id 9 17 fr ta (Ud.sH 67 68 fr ta (Dh.nH true m.gF 0 yo ne [m.k0,m.k1,m.k2,m.k3,m.k4,m.k5] (Ws 5 [a,b,c,d] [a',b',c',d'])))))] w fun ee w'=>ee=.returned (.tuple #[])/\∃mz,mz=m/\Mx w0 P w' B mz:=
 IQ h hr hB a1 a2 a3 a4 a5 a6 id 67 fr ta _ hid (by decide) hf ht (ad6 _ _ _ _ _ _ _) _ (ag8 5 a b c d a' b' c' d' yo ne ho.gF hy hn _ (bo3 rfl) (fun sa sc w0 P u hu hA=>by
  refine on_ (AP hu (by rw[h1];decide) (by rw[h1];decide) (by rw[h1];decide) true m.gF 0 yo ne _ _ _ _ _ _ sa 5 sc (vK a b c d)) fun w' hm=>?_;exact⟨rfl,_,rfl,hm⟩))
end Js
namespace Ho
open Bs Js
variable{w0 w w':fV} {P:Nat→Prop} {Q B H G:Nat} {p:Pm} {K:Nat→Nat} {m m' m1 m2 mz:Mc} {t k:Nat} {pt q qq:Int} {j:Option Nat} {h:Host}
theorem bh5(m:Mc)(f:ByteArray):vx (m.sent f)=vx m:=bI9 (dV m f)
theorem bO7{a ua:Int}(r:Bn K p t pt j q m)(hg:m.gq.length<16)(hw:Pe p a ua m):Ev K aB9 m (fun mz=>vx mz=vx m/\mz.Ok/\Kw mz/\∃i,bQ i/\mz.gq=m.gq++ [tP p i mz]):=by
 intro m2 s;have r2:=r.same s.e s.ok;refine⟨fun e=>(by rw[r2.fe.lK.2]at e;cases e),fun _ w0 P u B hr hu=> ?_⟩;obtain⟨x,i,ex,ea,et,hi,el⟩:=hw;have ecd2:m2.cd=ak x:=s.cd.trans ex;have c2:=aj5 hu hr Tk.base (by rw[r2.bo.st];decide) 2 0 0 0 0 7 167772161 (by decide) (by rw[r2.bo.addr];decide) (by decide) (by rw[r2.bo.addr];decide) (by rw[ecd2];exact aA8 _ x rfl) x (by rw[ecd2];rfl) (by rw[ecd2];rfl) (by rw[el];exact bN3 _ _ _ _ _) (by rw[el];exact bo6 (bO3 _ _ _ _ _) (by decide));have cc:=r2.bo.cb;rw[cc.k0,cc.k1,cc.k2,cc.k3,cc.k4,cc.k5,r2.bo.addr]at c2;refine on_ c2 ?_;rintro w' ⟨mz,hmz,hm⟩;refine⟨rfl,mz,?_,hm⟩;have e1:mz=(m2.keep 167772161 ⟨0,2,0,0,0,0,7,wrap64 (m2.now+60),⟨#[]⟩⟩).sent (be0 p i m.sF m.sT m.sL):=by
  rw[hmz];unfold Mc.learns Mc.knows Mc.send be0;rw[el,show(m2.keep 167772161 ⟨0,2,0,0,0,0,7,wrap64 (m2.now+60),⟨#[]⟩⟩).card=m2.card from rfl,cc.card]
 have ev:vx mz=vx m:=by rw[e1,bh5];exact s.e
 have e4:tP p i mz=be0 p i m.sF m.sT m.sL:=by
  unfold tP;rw[show mz.sF=m.sF from(by5 Mc.sF ev:),show mz.sT=m.sT from(by5 Mc.sT ev:),show mz.sL=m.sL from(by5 Mc.sL ev:)]
 refine⟨⟨ev,by rw[e1];exact(aS9 s.ok _ _).sent _,⟨⟨0,2,0,0,0,0,7,wrap64 (m2.now+60),⟨#[]⟩⟩,?_,⟨rfl,rfl,rfl,rfl,rfl,rfl,rfl⟩,rfl⟩,i,hi,?_⟩,?_⟩
 ·rw[e1,aa9]
  show m2.cd.put _ _=_;rw[ecd2];rfl
 ·rw[e4,e1,ah6 _ _ (by show m2.gq.length≠m2.tx;rw[s.gq,cc.tx];omega)]
  show m2.gq++_=_;rw[s.gq]
 rw[e1,aN5];rfl
theorem bO4(r:Bn K p t pt j q m)(hw:Kw m):Ev K aB9 m (fun mz=>vx mz=vx m/\mz.Ok/\Kw mz/\mz.gq=m.gq):=by
 intro m2 s;have r2:=r.same s.e s.ok;refine⟨fun e=>(by rw[r2.fe.lK.2]at e;cases e),fun _ w0 P u B hr hu=> ?_⟩;obtain⟨x,ex,kx,el⟩:=hw;have ecd2:m2.cd=ak x:=s.cd.trans ex;have c2:=bH5 hu hr Tk.base (by rw[r2.bo.st];decide) 2 0 0 0 0 7 167772161 (by decide) (by rw[r2.bo.addr];decide) (by decide) (by rw[r2.bo.addr];decide) (by rw[ecd2];exact aA8 _ x rfl) x (by rw[ecd2];rfl) (by rw[ecd2];rfl) el;have cc:=r2.bo.cb;rw[cc.k0,cc.k1,cc.k2,cc.k3,cc.k4,cc.k5,r2.bo.addr]at c2;refine on_ c2 ?_;rintro w' ⟨mz,hmz,hm⟩;refine⟨rfl,mz,?_,hm⟩;rw[hmz];refine⟨⟨s.e,aS9 s.ok _ _,⟨⟨0,2,0,0,0,0,7,wrap64 (m2.now+60),⟨#[]⟩⟩,?_,⟨rfl,rfl,rfl,rfl,rfl,rfl,rfl⟩,rfl⟩,s.gq⟩,rfl⟩;show m2.cd.put _ _=_;rw[ecd2];rfl
theorem bJ4(r:Bn K p t pt j q m)(po:p.Ok)(id:Int)(hid:bQ id)(hqq:bQ qq)(hpf:j=none∨∃k,j=some k/\qq=q)(G:Tf.RH)(hk:Tf.UU G=0)(hz:(⟨(Tf.U7 G).toArray⟩:ByteArray).size<=1472)(hp:Tf.ZO G)(hb:G.block<65536)(Z:Mc->Prop)
  (LK:∀(m2:Mc) (B:Nat),Sm m2 m->Looks (Tk K) G.op G.block ⟨G.text.toArray⟩ ⟨G.data.toArray⟩ G.fs.length (Tf.Rf G.fs) qq B m2 (fun mz=>Z mz/\mz.cq=m2.cq)):
  Ev K (inP p id qq pt ⟨(Tf.U7 G).toArray⟩) m Z:=by
 intro m2 s;have r2:=r.same s.e s.ok;refine⟨fun e=>(by rw[r2.fe.lK.2]at e;cases e),fun _ w0 P u B hr hu=> ?_⟩;have pb:=r.bo.pb;have c2:=Zi hu hr Tk.base s.ok r2.fe.lK.1 2 0 0 0 0 7 id qq _ hid hqq (by rw[r2.bo.port];omega) (by rw[r2.bo.port];omega) hz (by
  have f:=r2.fe
  rcases hpf with rfl|⟨k,rfl,rfl⟩
  ·exact bo1 (by rw[Re.ph f];rfl)
  exact bo3 ⟨by rw[Lo.ph f];rfl,(Lo.Wl f).symm⟩) G rfl hk hp hb _ (LK m2 B s)
 have cc:=r2.bo.cb;rw[cc.k0,cc.k1,cc.k2,cc.k3,cc.k4,cc.k5,r2.bo.addr,r2.bo.FJ,r2.bo.port]at c2;exact c2
def GqA(p:Pm)(pt q:Int)(k:Nat)(g g':List ByteArray):Prop:=g'=g∨∃i,bQ i/\g'=g++ [be0 p i pt q (XM k)]
theorem Bo.hop(b:Bo K p t pt m)(po:p.Ok)(x:Nb)(e:m.cd=ak x)(hx:KX x):Hop m x:=by
 have eh:m.hop m.FJ=167772161:=by rw[b.FJ];exact b.bb7 po
 exact⟨by rw[eh];decide,by rw[eh,e];rfl,by rw[eh,e];rfl,hx.1⟩
theorem bI5(b:Bo K p t pt m1)(ht:t<=90000)(x:Nb)(hx:KX x)(hk:k<=600)(hf:m1.Wl=qq)(hq:bQ qq)(hn:m1.TE=((k+1:Nat):Int)):
  ∃mz,mz=m1.answered x/\Bo K p t pt mz/\mz.cq=m1.cq/\mz.cd=m1.cd/\mz.fs=1/\FuB t 0 mz.fu/\mz.sF=pt/\mz.sT=qq/\mz.sL=XM k/\mz.since=0/\mz.phase=m1.phase/\mz.TE=m1.TE/\mz.ql=m1.ql/\mz.Wl=m1.Wl/\mz.Be=m1.Be/\mz.Od=m1.Od/\GqA p pt qq k m1.gq mz.gq:=by
 have c:=b.cb;have o:=c.ok;have pb:=b.pb;have hN:m1.Y_.toNat=k%65536:=by
  unfold Mc.Y_;rw[hn];show((((k+1:Nat):Int)-1)%65536).toNat=k%65536;omega
 have hB:m1.Xx=XM k:=by unfold Mc.Xx XM;rw[hN]
 have eF:m1.aJ1 x=be0 p m1.id pt qq (XM k):=by
  unfold Mc.aJ1 be0 pkP;rw[hB,b.addr,b.FJ,b.port,hf,c.card,hx.2.1,hx.2.2.1,hx.2.2.2.1,hx.2.2.2.2.1,hx.2.2.2.2.2.1,hx.2.2.2.2.2.2]
 have hz:=YI m1;have o1:m1.Wv.WS.Ok:=⟨o.1,o.2,o.3,o.4,o.5,o.6,o.7,o.8,o.9,o.10,o.11,o.12,⟨by show(0:Int)<=0+1;decide,by show(0:Int)+1<=4;decide⟩,by show 0<=m1.port/\m1.port<=65535;rw[b.port];omega,by show 0<=m1.Wl/\m1.Wl<=65535;rw[hf];exact hq,by show m1.Xx.size<=262144;omega⟩;obtain⟨m2,hm2⟩:=ex_ m1.Wv.WS;have b2:Bo K p t pt m2:=by
  rw[hm2];exact⟨⟨o1,c.k0,c.k1,c.k2,c.k3,c.k4,c.k5,c.name,c.cap,c.gQ,c.blk,c.win,c.rx,c.tx⟩,b.st,b.iB,b.mask,b.yz,b.FJ,b.ends,b.now,b.port,b.pb⟩
 have fu2:FuB t 0 m2.fu:=by
  rw[hm2];exact bJ6 (m:=m1.Wv) b.now ⟨ah _,by show(0:Int)<=3;decide⟩ ht
 have e0:m1.answered x=m2.Ww.sent (be0 p m1.id pt qq (XM k)):=by rw[XX,eF,hm2]
 have ev:vx (m2.Ww.sent (be0 p m1.id pt qq (XM k)))=vx m2:=by rw[bh5];rfl
 refine⟨_,rfl,?_⟩;rw[e0];refine⟨b2.same ev (b2.cb.ok.Ww.sent _),?_,?_,?_,?_,?_,?_,?_,?_,?_,?_,?_,?_,?_,?_,?_⟩
 ·rw[aN5,hm2];rfl
 ·rw[aa9,hm2];rfl
 ·exact(by5 Mc.fs ev).trans (by rw[hm2];rfl)
 ·rw[show(m2.Ww.sent (be0 p m1.id pt qq (XM k))).fu=m2.fu from(by5 Mc.fu ev:)];exact fu2
 ·exact(by5 Mc.sF ev).trans (by rw[hm2];exact b.port)
 ·exact(by5 Mc.sT ev).trans (by rw[hm2];exact hf)
 ·exact(by5 Mc.sL ev).trans (by rw[hm2];exact hB)
 ·exact(by5 Mc.since ev).trans (by rw[hm2];rfl)
 ·exact(by5 Mc.phase ev).trans (by rw[hm2];rfl)
 ·exact(by5 Mc.TE ev).trans (by rw[hm2];rfl)
 ·exact(by5 Mc.ql ev).trans (by rw[hm2];rfl)
 ·exact(by5 Mc.Wl ev).trans (by rw[hm2];rfl)
 ·exact(by5 Mc.Be ev).trans (by rw[hm2];rfl)
 ·exact(by5 Mc.Od ev).trans (by rw[hm2];rfl)
 have g2:m2.gq=m1.gq:=by rw[hm2];rfl
 by_cases hl:m2.Ww.gq.length=m2.Ww.tx
 ·left
  unfold Mc.sent;rw[bp0 hl];exact g2
 right
 refine⟨m1.id,o.id,?_⟩;rw[ah6 _ _ hl];show m2.gq++_=_;rw[g2]
structure Dq (p:Pm) (m:Mc):Prop where
 ph:m.phase=3
 rx:m.rx=16
 img:m.ql=p.s
 ok:m.Ok
theorem Dq.same(d:Dq p m)(e:vx m'=vx m)(o:m'.Ok):Dq p m':=⟨(by5 Mc.phase e).trans d.ph,(by5 Mc.rx e).trans d.rx,(by5 Mc.ql e).trans d.img,o⟩
theorem Dq.ended(d:Dq p m):m.ended=true:=by unfold Mc.ended;rw[d.ph];rfl
theorem bF3{f:ByteArray}(d:Dq p m):Ev K f m (fun mz=>Dq p mz/\mz.gq=m.gq):=fun m2 s=>by
 have d2:=d.same s.e s.ok;exact⟨fun _=>⟨d2,s.gq⟩,fun e=>by rw[d2.ended]at e;cases e⟩
structure Lq (p:Pm) (k:Nat) (q:Int) (m:Mc):Prop where
 ph:m.phase=2
 TE:m.TE=((k+1:Nat):Int)
 since:0<=m.since/\m.since<p.w
 img:m.ql=p.s.take (k*p.b)
 Wl:m.Wl=q
 Be:m.Be=p.b
 Od:m.Od=p.w
 le:k<=p.L
theorem Lo.lq(l:Lo p pt k q m):Lq p k q m:=⟨l.ph,l.TE,l.since,l.img,l.Wl,l.Be,l.Od,l.le⟩
theorem Bo.takes(b:Bo K p t pt m)(po:p.Ok)(l:Lq p k q m)(hq:bQ q)(D:List UInt8)(hD:D.length<=p.b):ah1 m D:=by
 have pb:=b.pb;have h1:=po.take_len l.le;have h2:=(po.le k).1 l.le;have h3:=po.len;have h4:=po.b8;exact⟨b.cb.ok,l.ph,by rw[l.Be];omega,by rw[b.cb.cap,l.img,h1];omega,by rw[l.img,h1];omega,by rw[b.port];omega,by rw[l.Wl];exact hq⟩
theorem Bo.got(b:Bo K p t pt m)(v:Value)(D:List UInt8):Bo K p t pt (m.got v D):=by
 have c:=b.cb;exact⟨⟨ad2 c.ok v D,c.k0,c.k1,c.k2,c.k3,c.k4,c.k5,c.name,c.cap,c.gQ,c.blk,c.win,c.rx,c.tx⟩,b.st,b.iB,b.mask,b.yz,b.FJ,b.ends,b.now,b.port,b.pb⟩
def Nx(K:Nat->Nat)(p:Pm)(t:Nat)(pt:Int)(k:Nat)(q:Int)(g:List ByteArray)(mz:Mc):Prop:=
 (k<p.L/\Bn K p t pt (some (k+1)) q mz/\Kw mz/\mz.fs=1/\FuB t 0 mz.fu/\GqA p pt q (k+1) g mz.gq)∨(k=p.L/\Dq p mz/\GqA p pt q (k+1) g mz.gq)
theorem bT6{k:Nat}(h:k<=600):IntKind.u16.wrap (((k+1:Nat):Int)+1)=((k+1+1:Nat):Int):=by
 show(((k+1:Nat):Int)+1)%65536=_;omega
theorem bR3(po:p.Ok)(b:Bo K p t pt m)(ht:t<=90000)(l:Lq p k q m)(hq:bQ q)(kw:Kw m):bN7 K B m (p.blk k) (fun mz=>Nx K p t pt k q m.gq mz/\mz.cq=m.cq):=by
 obtain⟨x,hc,hx,hx2⟩:=kw;have hL:=po.L5;have hle:=l.le;have h4:=po.b8;have hw8:=po.w8;have tk:=b.takes po l hq (p.blk k) (p.bH8 k);have hp:=b.hop po x hc hx;have hsc:=l.since;have hws:wrap64 (m.since+1)=m.since+1:=BL _ (by omega);have fin:∀v,∃m1,m1=m.got v (p.blk k)/\Bo K p t pt m1/\m1.cd=m.cd/\m1.cq=m.cq/\m1.gq=m.gq/\m1.phase=2/\m1.Wl=q/\m1.TE=((k+1+1:Nat):Int)/\m1.ql=p.s.take ((k+1)*p.b)/\m1.Be=p.b/\m1.Od=p.w/\m1.since=m.since+1:=fun v=>by
  refine⟨_,rfl,b.got v _,rfl,rfl,rfl,l.ph,l.Wl,?_,?_,l.Be,l.Od,hws⟩
  ·show IntKind.u16.wrap (m.TE+1)=_
   rw[l.TE];exact bT6 (by omega)
  show m.ql++p.blk k=_;rw[l.img,p.bi4]
 rcases Nat.lt_or_ge k p.L with hk|hk
 ·have hf:=po.full hk
  have hnl: ¬((p.blk k).length:Int)<m.Be:=by rw[l.Be,hf];omega
  by_cases hs:m.since+1=p.w
  ·refine fun w0 P u hr hu=>((bN0 tk x hp hnl (by rw[hws,l.Od,hs])) w0 P u hr hu).mono ?_
   rintro ee w' ⟨rfl,mz,⟨v,rfl⟩,hm⟩;obtain⟨m1,e1,b1,a1,a2,a3,a4,a5,a6,a7,a8,a9,a10⟩:=fin v;rw[<-e1]at hm;obtain⟨mz,ez,y1,y2,y3,y4,y5,y6,y7,y8,y9,y10,y11,y12,y13,y14,y15,y16⟩:=bI5 b1 ht x hx (k:=k+1) (by omega) a5 hq a6;rw[<-ez]at hm;rw[a3]at y16;refine⟨rfl,mz,⟨bo1 ⟨hk,⟨y1,?_⟩,⟨x,y3.trans (a1.trans hc),hx,hx2⟩,y4,y5,y16⟩,y2.trans a2⟩,hm⟩;exact(⟨y10.trans a4,y11.trans a6,by rw[y9];omega,y12.trans a7,y6,y7,y8,y13.trans a5,y14.trans a8,y15.trans a9,hk⟩:Lo p pt (k+1) q mz)
  refine fun w0 P u hr hu=>((bM8 tk hnl (by rw[hws,l.Od];exact hs)) w0 P u hr hu).mono ?_;rintro ee w' ⟨rfl,mz,⟨v,rfl⟩,hm⟩;obtain⟨m1,e1,b1,a1,a2,a3,a4,a5,a6,a7,a8,a9,a10⟩:=fin v;rw[<-e1]at hm;have hN:m1.Y_.toNat=(k+1)%65536:=by
   unfold Mc.Y_;rw[a6];show((((k+1+1:Nat):Int)-1)%65536).toNat=(k+1)%65536;omega
  have hB:m1.Xx=XM (k+1):=by unfold Mc.Xx XM;rw[hN]
  have c:=b1.cb;have o:=c.ok;have pb:=b.pb;have hz:=YI m1;have o1:m1.withheld.Ok:=⟨o.1,o.2,o.3,o.4,o.5,o.6,o.7,o.8,o.9,o.10,o.11,o.12,⟨by show(0:Int)<=1;decide,by show(1:Int)<=4;decide⟩,by show 0<=m1.port/\m1.port<=65535;rw[b1.port];omega,by show 0<=m1.Wl/\m1.Wl<=65535;rw[a5];exact hq,by show m1.Xx.size<=262144;omega⟩;have fu2:FuB t 0 m1.withheld.fu:=bJ6 (m:={m1 with fs:=0}) b1.now ⟨ah _,by show(0:Int)<=3;decide⟩ ht;refine⟨rfl,m1.withheld,⟨bo1 ⟨hk,⟨⟨⟨o1,c.k0,c.k1,c.k2,c.k3,c.k4,c.k5,c.name,c.cap,c.gQ,c.blk,c.win,c.rx,c.tx⟩,b1.st,b1.iB,b1.mask,b1.yz,b1.FJ,b1.ends,b1.now,b1.port,b1.pb⟩,?_⟩,⟨x,a1.trans hc,hx,hx2⟩,rfl,fu2,bo1 a3⟩,a2⟩,hm⟩;exact(⟨a4,a6,by show 0<=m1.since/\m1.since<_;rw[a10];omega,a7,b1.port,a5,hB,a5,a8,a9,hk⟩:Lo p pt (k+1) q m1.withheld)
 have ek:k=p.L:=by omega
 have hs:=po.short ek;have hz:m.ql.length+(p.blk k).length<=1048576:=by
  rw[l.img,po.take_len l.le];have:=(po.le k).1 l.le;have:=po.len;omega
 refine fun w0 P u hr hu=>((bO2 tk x hp (by rw[l.Be];omega) hz (by rw[l.img,b.cb.gQ,ek,po.all])) w0 P u hr hu).mono ?_;rintro ee w' ⟨rfl,mz,⟨v,rfl⟩,hm⟩;obtain⟨m1,e1,b1,a1,a2,a3,a4,a5,a6,a7,a8,a9,a10⟩:=fin v;rw[<-e1]at hm;obtain⟨mz,ez,y1,y2,y3,y4,y5,y6,y7,y8,y9,y10,y11,y12,y13,y14,y15,y16⟩:=bI5 b1 ht x hx (k:=k+1) (by omega) a5 hq a6;rw[<-ez]at hm;rw[a3]at y16;have o:=y1.cb.ok;have z0:∀c:Int,0<=c->0<=(0:Int)/\(0:Int)<=c:=fun c h=>⟨ah _,h⟩;refine⟨rfl,mz.done,⟨bo3 ⟨ek,⟨rfl,y1.cb.rx,?_,⟨o.1,o.2,o.3,o.4,o.5,o.6,o.7,o.8,o.9,o.10,o.11,o.12,z0 _ (by decide),z0 _ (by decide),z0 _ (by decide),by show(⟨#[]⟩:ByteArray).size<=262144;decide⟩⟩,y16⟩,y2.trans a2⟩,hm⟩;show mz.ql=p.s;rw[y12,a7,<-p.bi4,ek,po.all]
theorem bE9(bl:Nat)(D:List UInt8)(h:D.length<=512):Tf.UU (WN bl D)=0/\(YD bl D).size<=1472:=by
 have e:Tf.UU (WN bl D)=0:=by
  have h2: ¬1024<D.length:=by omega
  have h3:(Tf.Mq (WN bl D)).length<=1472:=by simp[Tf.Mq,WN,Tf.TU];omega
  unfold Tf.UU;rw[bo4 (by simp[Tf.RS,WN]),bo4 (by rintro ⟨_,q⟩;exact h2 q),bo4 (by omega)]
 refine⟨e,?_⟩;unfold YD;rw[strSize];unfold Tf.U7;rw[bp0 e];simp[Tf.Mq,WN,Tf.TU];omega
theorem bg7(bl:Nat)(D:List UInt8):Tf.ZO (WN bl D):=⟨fun e=>absurd e (by show ¬(3=1);decide),fun e=>absurd e (by show ¬(3=6);decide),fun _=>⟨rfl,rfl⟩,fun e=>absurd e (by show ¬(3=4);decide),fun e=>absurd e (by show ¬(3=5);decide)⟩
def blP(p:Pm)(id q pt:Int)(k:Nat):ByteArray:=inP p id q pt (YD ((k+1)%65536) (p.blk k))
theorem bN5(po:p.Ok)(r:Bn K p t pt (some k) q m)(ht:t<=90000)(hq:bQ q)(kw:Kw m)(jx:Nat)(hj:jx<=p.L)(id:Int)(hid:bQ id):Ev K (blP p id q pt jx) m (fun mz=>(jx≠k/\Bn K p t pt (some k) q mz/\Kw mz/\mz.fs=1/\FuB t 0 mz.fu/\GqA p pt q k m.gq mz.gq)∨(jx=k/\Nx K p t pt k q m.gq mz)):=by
 have hL:=po.L5;have h4:=po.b8;have hl:=p.bH8 jx;have hjm:(jx+1)%65536=jx+1:=bC5 (by omega);unfold blP;rw[hjm];obtain⟨ek,ez⟩:=bE9 (jx+1) (p.blk jx) (by omega);refine bJ4 r po id hid hq (bo3 ⟨k,rfl,rfl⟩) (WN (jx+1) (p.blk jx)) ek ez (bg7 _ _) (by show jx+1<65536;omega) _ (fun m2 B s=> ?_);have r2:=r.same s.e s.ok;have l2:Lo p pt k q m2:=r2.fe;have kw2:Kw m2:=kw.cd s.cd
 by_cases e:jx=k
 ·subst e
  have LK:=YS (K:=K) (B:=B) (r2.bo.takes po l2.lq hq (p.blk jx) hl) q _ (bR3 po r2.bo ht l2.lq hq kw2);rw[l2.TE,s.gq]at LK;exact Yr LK (fun mz y=>⟨bo3 ⟨rfl,y.1⟩,y.2⟩)
 obtain⟨x,hc,hx,hx2⟩:=kw2;have LK:=bG9 (K:=K) (B:=B) (f:=q) (r2.bo.takes po l2.lq hq (p.blk jx) hl) x (r2.bo.hop po x hc hx) ((jx+1:Nat):Int) (by rw[l2.TE];omega);refine Yr LK ?_;rintro mz rfl;have hle:=l2.le;obtain⟨mz,ez,y1,y2,y3,y4,y5,y6,y7,y8,y9,y10,y11,y12,y13,y14,y15,y16⟩:=bI5 r2.bo ht x hx (k:=k) (by omega) l2.Wl hq l2.TE;rw[<-ez];rw[s.gq]at y16;have hw8:=po.w8;refine⟨bo1 ⟨e,⟨y1,?_⟩,⟨x,y3.trans hc,hx,hx2⟩,y4,y5,y16⟩,y2⟩;exact(⟨y10.trans l2.ph,y11.trans l2.TE,by rw[y9];omega,y12.trans l2.img,y6,y7,y8,y13.trans l2.Wl,y14.trans l2.Be,y15.trans l2.Od,hle⟩:Lo p pt k q mz)
theorem bN4(po:p.Ok)(hob:p.ob=false)(r:Bn K p t pt none q m)(ht:t<=90000)(hq:bQ qq)(kw:Kw m)(id:Int)(hid:bQ id):Ev K (blP p id qq pt 0) m (fun mz=>Nx K p t pt 0 qq m.gq mz):=by
 have hb:p.b=512:=by unfold Pm.b;rw[hob];rfl
 have hw:p.w=1:=by unfold Pm.w;rw[hob];rfl
 have hl:=p.bH8 0;obtain⟨ek,ez⟩:=bE9 1 (p.blk 0) (by omega);refine bJ4 r po id hid hq (bo1 rfl) (WN 1 (p.blk 0)) ek ez (bg7 _ _) (by show 1<65536;decide) _ (fun m2 B s=> ?_);have r2:=r.same s.e s.ok;have f2:Re p pt m2:=r2.fe;have kw2:Kw (m2.Xn qq):=kw.cd s.cd;have b:=r2.bo;have c:=b.cb;have o:=c.ok;have b2:Bo K p t pt (m2.Xn qq):=⟨⟨⟨o.1,o.2,o.3,o.4,o.5,o.6,o.7,o.8,o.9,o.10,o.11,o.12,o.13,o.14,o.15,o.16⟩,c.k0,c.k1,c.k2,c.k3,c.k4,c.k5,c.name,c.cap,c.gQ,c.blk,c.win,c.rx,c.tx⟩,b.st,b.iB,b.mask,b.yz,b.FJ,b.ends,b.now,b.port,b.pb⟩;have l2:Lq p 0 qq (m2.Xn qq):=⟨rfl,f2.TE,by show 0<=m2.since/\m2.since<_;rw[f2.since,hw];decide,by show m2.ql=_;rw[f2.img,Nat.zero_mul];rfl,rfl,by show m2.Be=_;rw[f2.Be,hb];rfl,by show m2.Od=_;rw[f2.Od,hw];rfl,bp3 _⟩;have BK:=bR3 (B:=B) po b2 ht l2 hq kw2;have eg:(m2.Xn qq).gq=m.gq:=s.gq;rw[eg]at BK;exact bF9 (b2.takes po l2 hq (p.blk 0) hl) f2.ph f2.TE _ BK
def bf9(p:Pm):Tf.RH:=⟨6,0,[],[],[(VC,dg p.s.length),(Gp,dg (min p.bk 300)),(I1,dg p.wn)]⟩
def bh8(p:Pm)(id qq pt:Int):ByteArray:=inP p id qq pt ⟨(Tf.U7 (bf9 p)).toArray⟩
theorem bh9(p:Pm):Tf.ZO (bf9 p):=⟨fun e=>absurd e (by show ¬(6=1);decide),fun _=>⟨rfl,rfl,rfl⟩,fun e=>absurd e (by show ¬(6=3);decide),fun e=>absurd e (by show ¬(6=4);decide),fun e=>absurd e (by show ¬(6=5);decide)⟩
theorem bP0(po:p.Ok)(hok:Tf.UU (bf9 p)=0)(hob:p.ob=true)(r:Bn K p t pt none q m)(ht:t<=90000)(hq:bQ qq)(kw:Kw m)(id:Int)(hid:bQ id):Ev K (bh8 p id qq pt) m (fun mz=>Bn K p t pt (some 0) qq mz/\Kw mz/\mz.fs=1/\FuB t 0 mz.fu/\GqA p pt qq 0 m.gq mz.gq):=by
 have hb:p.b=min p.bk 300:=by unfold Pm.b;rw[hob];rfl
 have hw:p.w=p.wn:=by unfold Pm.w;rw[hob];rfl
 have hbk:=po.bk;have hwn:=po.wn;have hlen:=po.len;refine bJ4 r po id hid hq (bo1 rfl) (bf9 p) hok (aV0 _ hok) (bh9 p) (by show 0<65536;decide) _ (fun m2 B s=> ?_);have r2:=r.same s.e s.ok;have f2:Re p pt m2:=r2.fe;have b:=r2.bo;have c:=b.cb;have o:=c.ok;have pb:=b.pb;obtain⟨x,hc,hx,hx2⟩:=kw.cd s.cd;have LK:=ZQ (K:=K) (B:=B) o f2.ph (dg p.s.length) (dg (min p.bk 300)) (dg p.wn) p.s.length ((min p.bk 300:Nat):Int) p.wn ((bg9 _ hlen).bM5 hlen) ((bg9 (min p.bk 300) (by omega)).bM5 (by omega)) ((bg9 p.wn (by omega)).bM5 (by omega)) (by rw[c.cap];omega) (by rw[c.blk];omega) (by rw[c.win];omega) x (b.hop po x hc hx) qq (by rw[b.port];omega) hq;refine Yr LK ?_;rintro mz rfl;obtain⟨m1,hm1⟩:=ex_ ((m2.agreed ((min p.bk 300:Nat):Int) p.wn).Xn qq);have b1:Bo K p t pt m1:=by
  rw[hm1];exact⟨⟨⟨o.1,o.2,o.3,o.4,o.5,o.6,o.7,o.8,o.9,o.10,o.11,o.12,o.13,o.14,o.15,o.16⟩,c.k0,c.k1,c.k2,c.k3,c.k4,c.k5,c.name,c.cap,c.gQ,c.blk,c.win,c.rx,c.tx⟩,b.st,b.iB,b.mask,b.yz,b.FJ,b.ends,b.now,b.port,b.pb⟩
 obtain⟨mz,ez,y1,y2,y3,y4,y5,y6,y7,y8,y9,y10,y11,y12,y13,y14,y15,y16⟩:=bI5 b1 ht x hx (k:=0) (qq:=qq) (by omega) (by rw[hm1];rfl) hq (by rw[hm1];exact f2.TE);rw[<-hm1,<-ez];have eg:m1.gq=m.gq:=by rw[hm1];exact s.gq
 rw[eg]at y16;refine⟨⟨⟨y1,?_⟩,⟨x,y3.trans (by rw[hm1];exact hc),hx,hx2⟩,y4,y5,y16⟩,y2.trans (by rw[hm1];rfl)⟩;exact(⟨y10.trans (by rw[hm1];rfl),y11.trans (by rw[hm1];exact f2.TE),by rw[y9];omega,y12.trans (by rw[hm1,Nat.zero_mul];exact f2.img),y6,y7,y8,y13.trans (by rw[hm1];rfl),y14.trans (by rw[hm1,hb];rfl),y15.trans (by rw[hm1,hw];rfl),bp3 _⟩:Lo p pt 0 qq mz)
theorem bM6(po:p.Ok)(hok:Tf.UU (bf9 p)=0)(r:Bn K p t pt (some k) q m)(hq:bQ q)(id:Int)(hid:bQ id):Ev K (bh8 p id q pt) m (fun mz=>Sm mz m):=by
 refine bJ4 r po id hid hq (bo3 ⟨k,rfl,rfl⟩) (bf9 p) hok (aV0 _ hok) (bh9 p) (by show 0<65536;decide) _ (fun m2 B s=> ?_);have l2:Lo p pt k q m2:=(r.same s.e s.ok).fe;refine Yr (bG8 (K:=K) (B:=B) l2.ph) ?_;rintro mz rfl;exact⟨s,rfl⟩
end Ho
namespace Js
open Bs
variable{w0:fV} {P:Nat→Prop} {w w':fV} {B:Nat} {m m':Mc}
theorem bP3(g cp:Nat)(w:fV):f_ Vh 204 #[.slice (some (a_ g 0)) 1 cp,.int .i64 0,.int .i64 1] w fun e w'=>e=.returned (.tuple #[])/\w'=w:=by
 go_enter func204,ntmps204;go_wp2;refine br4 1 ?_;rw[bp5];go_wp2;go_end0;exact⟨rfl,rfl⟩
theorem bP7(g cp:Nat)(k:Int)(w:fV):f_ Vh 171 #[.slice (some (a_ g 0)) 1 cp,.int .i64 0,.int .i64 1,.int .i64 k] w fun e w'=>e=.returned (.tuple #[])/\w'=w:=by
 have HI:=Fe (bP3 g cp w);go_enter func171,ntmps171;go_wp2;refine br4 1 ?_;rw[bp5];go_wp2_with (go_at_call 204;refine HI.mono ?_;rintro ee u ⟨rfl,rfl⟩);go_returns
 exact⟨rfl,rfl⟩
theorem bQ6(w:fV):f_ Vh 172 #[.int .u64 1] w fun ee w'=>∃k,ee=.returned (.int .i64 k)/\w'=w:=by
 have HL:Hid (f_ Vh 214 #[.int .u64 1] w fun ee w'=>∃k,ee=.returned (.int .i64 k)/\w'=w):=Fe (by
  go_enter func214,ntmps214
  go_wp2
  go_ret
  exact⟨_,rfl,rfl⟩)
 go_enter func172,ntmps172;go_wp2_with (go_at_call 214;refine HL.mono ?_;rintro ee u ⟨k,rfl,rfl⟩);go_ret;exact⟨_,rfl,rfl⟩
theorem bM3(g cp:Nat)(w:fV):f_ Vh 133 #[.slice (some (a_ g 0)) 1 cp] w fun ee w'=>ee=.returned (.tuple #[])/\w'=w:=by
 have HL:=Fe (bQ6 w);go_enter func133,ntmps133;go_wp2_with fail;refine HL.mono ?_;rintro ee u ⟨k,rfl,rfl⟩;go_wp2_with fail;refine(bP7 g cp k _).mono ?_;rintro ee u ⟨rfl,rfl⟩;go_wp2;go_end0;exact⟨rfl,rfl⟩
theorem bG2(n:Nb)(h0:(n.asks==0)=false)(h3:(n.asks==3)=false)(now:Int)(b:Bool)(hb:decide (n.till<=now)=b)(w:fV):f_ Vh 131 #[n.v,.int .i64 now] w fun ee w'=>ee=.returned (.bool false)/\gm w.heap.size w w':=by
 have HU:=Fe (fun u=>aV6 n now b hb u);have HK:=Fe (fun u=>af8 n u);rw[h0]at HK;unfold Nb.v at HU HK ⊢;have HA:=Fe (bn3 w (.cells (rM n.asks n.k0.toNat n.k1.toNat n.k2.toNat n.k3.toNat n.k4.toNat n.k5.toNat n.till n.load) 157 (0,0)));clear hb;go_enter func131,ntmps131;go_wp2_with fail;refine on_ (HU _) fun u hu=>?_;have hr:=(hu.block w.heap.size (by simp)).trans HA;obtain⟨c0,c1,c2,c3,c4,c5,c6,c7,c8⟩:=nine hr;have HB:=Fe (b1_.trans (hu.mono (by simp)));clear hu
 cases b with
 |false=>
  go_wp2;go_ret;exact⟨rfl,HB⟩
 |true=>
  go_wp2_with fail;refine on_ (HK _) fun u2 hu2=>?_;have hwu:w.heap.size<=u.heap.size:=HB.size;have hr2:=(hu2.block w.heap.size (gG hr)).trans hr;obtain⟨d0,d1,d2,d3,d4,d5,d6,d7,d8⟩:=nine hr2;have HB2:=Fe (HB.trans (hu2.mono hwu));clear hu2 c0 c1 c2 c3 c4 c5 c6 c7 c8 hr hr2;go_wp2;go_ret;exact⟨rfl,HB2⟩
theorem bF5{bm:Nat}(now:Int)(x:Nb)(h0:(x.asks==0)=false)(h3:(x.asks==3)=false)(hown:w.ownsMap Vh 36 Qz bm 4 (ak x)):
  f_ Vh 83 #[.map (some bm),.int .i64 now] w fun ee w'=>ee=.returned (.tuple #[])/\w'.ownsMap Vh 36 Qz bm 4 (ak x)/\PU w w' bm:=by
 obtain⟨Q,hQ⟩:∃Q:Nb->Prop,Q=fun n=>(n.asks==0)=false/\(n.asks==3)=false:=⟨_,rfl⟩;have HC1:Hid (Cd Q (ak x)):=Fe (by rw[hQ];exact aY1 x ⟨h0,h3⟩);have hlt:=JA hown;have HG:Hid (∀n u,Q n->f_ Vh 131 #[n.v,.int .i64 now] u fun ee w'=>ee=.returned (.bool false)/\gm u.heap.size u w'):=Fe (fun n u hq=>by
  rw[hQ]at hq
  exact bG2 n hq.1 hq.2 now _ rfl u)
 unfold Nb.v at HG;obtain⟨D,hD⟩:=ex_ (ak x);rw[<-hD]at hown HC1;have HDD:=Fe hD;clear hQ h0 h3 hD;go_enter func83,ntmps83;go_wp2_with (first|(at_range;refine Cf _ rfl _ 102 rfl 36 157 (bu6 bt8) bu1 Qz bm 4 D rfl hown ?_;intro w1 hrg1 hg1 hs1)|go_in);go_frame
 go_loopw [] (fun wr=>∃(left:Lit->Bool) (cnt:Nat),wr.ranges Vh 36 Qz bm w.heap.size 4 D left cnt/\Hid (PU w wr bm)) (fun wr=>wr.rangeLeft bm w.heap.size)
 case atStart=>exact⟨_,_,hrg1,Fe ((PU.refl w bm).grown hg1 (by simp))⟩
 obtain⟨left,cnt,hrg,HT⟩:=hrel;rename fV=>wr;have hm0:=hrg.left_eq;go_wp2_with (first|(at_next;refine aN (Q:=Q) rfl _ rfl bm w.heap.size 4 D left cnt HC1 rfl hrg ?_ ?_)|go_in)
 ·intro hc0 hl0
  go_wp2;go_end0;exact⟨rfl,by rw[<-gB HDD];exact hrg.owns,HT⟩
 intro y c w2 cnt2 hy1 hy2 hly hhy hq hcy hrg2 hlt2 hg2 hs2 hen;have HQ:=Fe hq;clear hhy hly hcy hq;have hwl:w.heap.size<=wr.heap.size:=HT.size;have HT2:=Fe ((HT.grown hg2 (fun k e=>by cases e;exact bo1 (bn7 _))).grown (World.grownBy_alloc w2 (.cells (rM c.asks c.k0.toNat c.k1.toNat c.k2.toNat c.k3.toNat c.k4.toNat c.k5.toNat c.till c.load) 157 (0,0)) none) (by simp));have HR2:=Fe (hrg2.alloc (.cells (rM c.asks c.k0.toNat c.k1.toNat c.k2.toNat c.k3.toNat c.k4.toNat c.k5.toNat c.till c.load) 157 (0,0)));clear hrg hrg2 HT;go_wp2_with (first|(go_at_call 131;refine(HG c _ HQ).mono ?_;rintro ee u ⟨rfl,hu⟩;have hrg3:=HR2.kept (aK hu) (by simp) (by simp);have HT3:=Fe (HT2.grown (aK hu) (by simp));clear hu)|go_in);go_roundw
 case rel=>exact⟨_,cnt2,hrg3,HT3⟩
 rw[hrg3.left_eq,hm0];exact hlt2
theorem bR0{bm:Nat}(now:Int)(x0:Nb)(hup:x0.till<=now)(hown:w.ownsMap Vh 36 Qz bm 4 (ak x0)):
  f_ Vh 84 #[.map (some bm),.int .i64 now] w fun ee w'=>∃g cp,ee=.returned (.slice (some (a_ g 0)) 1 cp)/\w'.ownsRow w.heap.size 36 1 (.slice (some (a_ g 0)) 1 cp) 1 [.int .u32 167772161]/\gm w.heap.size w w':=by
 obtain⟨i0,hi,hz0,hz1,hz2⟩:=ol bl8;obtain⟨Q,hQ⟩:∃Q:Nb->Prop,Q=fun n=>n.till<=now:=⟨_,rfl⟩;have HC:Hid (Cd Q (ak x0)):=Fe (by rw[hQ];exact aY1 x0 hup);have hsz:=hown.size_le;have hlt:=JA hown;have HG:Hid (∀(n:Nb) u,Q n->f_ Vh 132 #[n.v,.int .i64 now] u fun ee w'=>ee=.returned (.bool true)/\gm u.heap.size u w'):=Fe (fun n u hq=>by
  rw[hQ]at hq
  exact aV6 n now true (decide_eq_true hq) u)
 have HH:Hid (∀a,Maps.has (ak x0) (.int .u32 a)=true->a=167772161):=Fe (one_has x0);obtain⟨D,hD⟩:=ex_ (ak x0);have HL0:Hid (Maps.has D (.int .u32 167772161)=true):=Fe (by rw[hD];rfl);rw[<-hD]at hown HC HH hsz;unfold Nb.v at HG;clear hQ hup hD;go_enter func84,ntmps84;go_wp2_with (first|(at_range;refine Cf _ rfl _ 102 rfl 36 157 (bu6 bt8) bu1 Qz bm 4 D rfl hown ?_;intro w1 hrg1 hg1 hs1)|go_in);go_frame
 go_loopw [5] (fun v wr=>∃(left:Lit->Bool) (cnt:Nat) (ks:List Int) (ao:Option Addr) (cp:Nat),v=.slice ao ks.length cp/\wr.ranges Vh 36 Qz bm w.heap.size 4 D left cnt/\Hid (wr.ownsRow w.heap.size 36 1 (.slice ao ks.length cp) ks.length (ks.map (Value.int .u32)))/\ks.length+cnt<=4/\Hid (ks=[]/\left (.int .u32 167772161)=true∨ks=[167772161]/\left (.int .u32 167772161)=false)/\Hid (gm w.heap.size w wr)) (fun _ wr=>wr.rangeLeft bm w.heap.size)
 case atStart=>exact⟨_,_,[],none,0,rfl,hrg1,Fe (bq3 _ _ _ _),by simpa using hsz,Fe (bo1 ⟨rfl,HL0⟩),Fe (aG (bn9 _ _) hg1 (bn7 _))⟩
 obtain⟨left,cnt,ks,ao,cp,rfl,hrg,HO,hkc,HX,HB⟩:=hrel;have hm0:=hrg.left_eq;obtain⟨kl,hkl⟩:∃kl:Nat,kl=ks.length:=⟨_,rfl⟩;rw[<-hkl]at HO hkc ⊢;replace hkl:=Fe hkl
 go_wp2_with (first|(at_next;refine aN (Q:=Q) rfl _ rfl bm w.heap.size 4 D left cnt HC rfl hrg ?_ ?_)|go_in)
 ·intro hc0 hl0
  have hks:ks=[167772161]:=by
   rcases gB HX with⟨_,e⟩|⟨e,_⟩
   ·rw[hl0]at e;cases e
   exact e
  have hk1:kl=1:=by rw[gB hkl,hks];rfl
  rw[hks]at HO;subst hk1;obtain⟨g,hg⟩:∃g,ao=some (a_ g 0):=by
   rcases HO.2 with⟨e1,e2⟩|⟨g,cap,cur,e1,_⟩
   ·exact absurd e2 (by decide)
   injection e1 with a1 _ _
   exact⟨g,a1⟩
  subst hg;have HS:=Fe (fun u=>bM3 g cp u);clear hl0 hm0 hrg1 hown hg1 hs1;go_wp2_with fail;refine(HS _).mono ?_;rintro ee u ⟨rfl,rfl⟩;clear hrg;go_wp2;go_ret;exact⟨g,cp,rfl,HO,HB⟩
 intro y c w2 cnt2 hy1 hy2 hly hhy hq hcy hrg2 hlt2 hg2 hs2 hen;have HYS:=Fe (HH y hhy);have HQ:=Fe hq;have HKS:Hid (ks=[]):=Fe (by
  rcases gB HX with⟨e,_⟩|⟨_,e⟩
  ·exact e
  rw[gB HYS,e]at hly;cases hly)
 clear hhy hly hq hcy;have hwl:w.heap.size<=wr.heap.size:=HB.size;have HO2:=Fe ((HO.kept hg2 (by
  cases hob:Value.ownBlock (.slice ao kl cp)with
  |none=>exact bo1 rfl
  |some g=>exact bo3 (fun e=>(bG4 hrg HO hob).1 (bp4 e)))).alloc (.cells (rM c.asks c.k0.toNat c.k1.toNat c.k2.toNat c.k3.toNat c.k4.toNat c.k5.toNat c.till c.load) 157 (0,0)))
 have HB2:=Fe ((jh HB hg2 hwl (bn7 _)).alloc (by omega) (.cells (rM c.asks c.k0.toNat c.k1.toNat c.k2.toNat c.k3.toNat c.k4.toNat c.k5.toNat c.till c.load) 157 (0,0)));have HR2:=Fe (hrg2.alloc (.cells (rM c.asks c.k0.toNat c.k1.toNat c.k2.toNat c.k3.toNat c.k4.toNat c.k5.toNat c.till c.load) 157 (0,0)));clear hrg hrg2 HB HO;go_wp2_with fail;refine on_ (HG c _ HQ) fun u hu=>?_;have hrg3:=HR2.kept (aK hu) (by simp) (by simp);have HB3:=Fe (HB2.trans (hu.mono HB2.size));have HO3:=Fe (iN HO2 (fun k hk=>hu.block k (HO2.lt k hk).2));clear hu HR2 HB2 HO2 hen hg2;have hwu:w.heap.size<=u.heap.size:=HB3.size;have HN:=Fe (fun g hg=>bG4 hrg3 HO3 (g:=g) hg);go_wp2_with (at_builtin;refine br5 _ rfl (.tmp 18) (.tmp 20) 153 rfl w.heap.size 36 i0 (.int .u32 0) 1 4 underlying153 hi hz0 hz1 hz2 rfl (by decide) _ _ _ rfl (HO3.alloc _) (a_ u.heap.size 0) 1 1 [.int .u32 y] rfl rfl (cell_one_new _ _ _) ?one ?h63 ?hby ?hba ?_)
 case one=>intro x hx;simp at hx;subst hx;rfl
 case h63=>unfold maxLen;omega
 case hby=>omega
 case hba=>simp;omega
 intro v2 u2 ho2 hg2 _;have hrg4:=(hrg3.alloc (.cells #[.int .u32 y] 36)).kept hg2 (fun e=>(HN _ e.symm).2 rfl) (fun e=>(HN _ e.symm).1 rfl);have HB4:Hid (gm w.heap.size w u2):=Fe (by
  have q:=HB3.alloc hwu (.cells #[.int .u32 y] 36)
  cases hob:Value.ownBlock (.slice ao kl cp)with
  |none=>rw[hob]at hg2;exact aG q hg2 (by simp;omega)
  |some g=>rw[hob]at hg2;exact jh q hg2 (by simp;omega) (HO3.lt g hob).1)
 have HO4:Hid (u2.ownsRow w.heap.size 36 1 v2 (kl+1) ((ks++ [y]).map (Value.int .u32))):=Fe (by rw[bv7];exact ho2);obtain⟨a2,c2,hv2⟩:=Dh.ib HO4;subst hv2;clear ho2 hg2 HO3 HB3 HN hrg3;have HX2:Hid (ks++ [y]=[167772161]):=Fe (by rw[gB HKS,gB HYS];rfl);have HK2:Hid ((ks++ [y]).length=kl+1):=Fe (by simp[gB hkl]);go_wp2;go_roundw
 case rel=>exact⟨_,cnt2,ks++ [y],a2,c2,by rw[gB HK2],hrg4,by rw[gB HK2];exact HO4,by rw[gB HK2];omega,Fe (bo3 ⟨HX2,by rw[gB HYS];simp[Lit.sameKey]⟩),HB4⟩
 rw[hrg4.left_eq,hm0];exact hlt2
theorem bK5(x:Nb):Room (ak x) 167772161:=Ho.aA8 _ x rfl
theorem bi2(h:Mx w0 P w B m)(ho:m.Ok)(x:Nb)(h0:(x.asks==0)=false)(h3:(x.asks==3)=false)(hcd:m.cd=ak x):f_ Vh 49 #[p_ B] w fun ee w'=>ee=.returned (.tuple #[])/\∃mz,(mz=m/\m.now<x.till∨mz=m.aK0 167772161 x/\x.till<=m.now)/\Mx w0 P w' B mz:=by
 have HM:=Fe h;have HOK:=Fe ho;have c0:=h.c0;have c14:=h.c14;clear h ho;have HF:Hid (∀u,Mx w0 P u B m->f_ Vh 83 #[.map (some m.bm),.int .i64 m.now] u fun ee w'=>ee=.returned (.tuple #[])/\Mx w0 P w' B m):=Fe (fun u hu=>(bF5 m.now x h0 h3 (by have q:=hu.map;rw[hcd]at q;exact q)).mono (by
  rintro ee u2 ⟨rfl,h2,h3⟩
  refine⟨rfl,?_⟩
  have q:Mx w0 P u2 B (m.bQ8 (ak x)):=hu.mapped h3 h2
  have e:m.bQ8 (ak x)=m:=by
   cases m
   dsimp only at hcd
   subst hcd
   rfl
  rw[e]at q
  exact q))
 have HCD:=Fe hcd;clear hcd h0 h3;go_enter func49,ntmps49;go_wp2;go_region_held3 (fun u=>u.cell? (a_ B 0)=some (.map (some m.bm))/\u.cell? (a_ B 14)=some (.int .i64 m.now)) (go_keep)
  (first|(go_at_call 83;refine(HF _ HM.drew).mono ?_;rintro ee u ⟨rfl,h1⟩;have d0:u.cell? (a_ B 0)=some (.map (some m.bm)):=h1.c0;have d14:u.cell? (a_ B 14)=some (.int .i64 m.now):=h1.c14))
 have H1:=Fe h1;clear h1 HM c0 c14 HF
 by_cases hup:x.till<=m.now
 ·have HU:Hid (∀u2,Mx w0 P u2 B m->f_ Vh 84 #[.map (some m.bm),.int .i64 m.now] u2 fun ee w'=>∃g cp,ee=.returned (.slice (some (a_ g 0)) 1 cp)/\w'.ownsRow u2.heap.size 36 1 (.slice (some (a_ g 0)) 1 cp) 1 [.int .u32 167772161]/\gm u2.heap.size u2 w'):=Fe (fun u2 hu=>bR0 m.now x hup (by have q:=hu.map;rw[gB HCD]at q;exact q))
  have HUP:=Fe hup;clear hup;go_wp2;go_region_held3 (fun u=>u.cell? (a_ B 0)=some (.map (some m.bm))/\u.cell? (a_ B 14)=some (.int .i64 m.now)) (go_keep)
   (first|(go_at_call 84;refine(HU _ H1.drew).mono ?_;rintro ee u2 ⟨g,cp,rfl,hrow,hb2⟩;have h2:=(H1.drew).below hb2;have e0:u2.cell? (a_ B 0)=some (.map (some m.bm)):=h2.c0;have e14:u2.cell? (a_ B 14)=some (.int .i64 m.now):=h2.c14))
  have H2:=Fe h2;have hcell:u2.cell? (a_ g 0)=some (.int .u32 167772161):=by
   rcases hrow.2 with⟨_,e⟩|⟨g',cap,cur,e1,e2,e3,e4,e5,e6,e7⟩
   ·exact absurd e (by decide)
   injection e1 with a1 _ a3
   injection a1 with a1
   injection a1 with a1 _
   subst a1;rw[bn0 u2 _ 0 _ _ _ e3];have z:=by5 (fun z=>z[0]?) e7;rw[List.getElem?_take_of_lt (by decide)]at z;rw[<-br1];exact z
  have hL:=bO h2.map 167772161 (by decide) x (by rw[gB HCD];rfl);have HK:=Fe (ay5 h2.base HOK (by rw[gB HCD];exact bK5 x) x);unfold Nb.v at hL HK;clear h2 hb2 H1 HU hrow;go_wp2;refine br4 2 ?_;rw[bp5];go_wp2_with fail;refine on_ HK fun u3 h3=>?_;have H3:=Fe (H2.join h3);clear h3 HK hL hcell H2;go_wp2;rw[bp5];go_wp2;go_end0;exact⟨rfl,_,bo3 ⟨rfl,HUP⟩,H3⟩
 have HU:Hid (∀u2,Mx w0 P u2 B m->f_ Vh 84 #[.map (some m.bm),.int .i64 m.now] u2 fun ee w'=>ee=.returned (.slice none 0 0)/\gm u2.heap.size u2 w'):=Fe (fun u2 hu=>aX3 (D:=ak x) m.now (by have q:=hu.map;rw[gB HCD]at q;exact q) (aY1 x (by omega)));have HUP:Hid (m.now<x.till):=Fe (by omega);clear hup;go_wp2;go_region_held3 (fun u=>u.cell? (a_ B 0)=some (.map (some m.bm))/\u.cell? (a_ B 14)=some (.int .i64 m.now)) (go_keep)
  (first|(go_at_call 84;refine(HU _ H1.drew).mono ?_;rintro ee u2 ⟨rfl,hb2⟩;have h2:=(H1.drew).below hb2;have e0:u2.cell? (a_ B 0)=some (.map (some m.bm)):=h2.c0;have e14:u2.cell? (a_ B 14)=some (.int .i64 m.now):=h2.c14))
 have H2:=Fe h2;clear h2 hb2 H1 HU;go_wp2;refine br4 1 ?_;rw[bp5];go_wp2;go_end0;exact⟨rfl,_,bo1 ⟨rfl,HUP⟩,H2⟩
end Js
namespace Js
open Bs
variable{w0:fV} {P:Nat→Prop} {w w':fV} {B:Nat} {m m' mz:Mc}
theorem bh0(h:Mx w0 P w B m)(hen:m.ends=false)(hst:m.st=4):f_ Vh 90 #[p_ B] w fun ee w'=>ee=.returned (.tuple #[])/\Mx w0 P w' B m:=by
 have HX:=Fe (h.alloc (.cells (rK m.mask m.yz m.FJ m.ends m.old m.iZ m.over) 109 (0,0)));have c14:=h.c14;have nk:=h.nk;have c31:=h.c31;have c32:=h.c32;have qd:=h.qd;have c34:=h.c34;have Qu:=h.Qu;have Qw:=h.Qw;have c37:=h.c37;have aX6:=h.aX6;have hlt:=h.lt;have hB:B≠w.heap.size:=bo5 hlt;rw[hen]at Qu HX;clear h hen;rw[hst]at nk;go_enter func90,ntmps90;go_wp2;go_quiet (fail);go_wp2;go_end0;exact⟨rfl,HX.like ⟨rfl,rfl,rfl,rfl⟩⟩
end Js
namespace Ho
open Bs Js
variable{w0 w w':fV} {P:Nat→Prop} {Q B H G:Nat} {p:Pm} {K:Nat→Nat} {m m' m2 mz:Mc} {t:Nat} {pt q:Int} {j:Option Nat}
def ToP(p:Pm)(m:Mc)(f t':Int)(L:ByteArray)(mz:Mc):Prop:=vw mz=vw m/\mz.Ok/\(Kw m/\mz.cd=m.cd/\mz.gq=m.gq++ [be0 p m.id f t' L]∨m.cd=.map []/\(∃x:Nb,mz.cd=ak x/\x.asks=1/\x.till=wrap64 (m.now+2)/\x.load=pkP p m.id f t' L)/\mz.gq=m.gq++ [az1]∨∃x:Nb,m.cd=ak x/\x.asks≠0/\mz.cd=ak {x with load:=pkP p m.id f t' L}/\mz.gq=m.gq)
theorem toP(hu:Mx w0 P w B m)(bo:Bo K p t pt m)(po:p.Ok)(f t':Int)(L:ByteArray)(hF:0<=f/\f<=65535)(hT:0<=t'/\t'<=65535)(hl:L.size<=262144)(hg:m.gq.length<16)(hc:Ce m∨∃x,m.cd=ak x/\x.asks≠0):
  f_ Vh 143 #[p_ B,.int .u32 p.nx,.agg (rF f t' L)] w fun ee w'=>ee=.returned (.tuple #[])/\∃mz,ToP p m f t' L mz/\Mx w0 P w' B mz:=by
 have o:=bo.cb.ok;have hop:=bo.bb7 po;have hpk:m.lD p.nx f t' L=pkP p m.id f t' L:=by
  unfold Mc.lD pkP;rw[bo.addr]
 have hcard:=bo.cb.card;have hnb:=po.nxb
 rcases hc with(e|⟨x,e,hx,hx2⟩)|⟨x,e,e1⟩
 ·refine on_ (ar9 hu o p.nx f t' L hnb hF hT hl (by rw[hop,e];exact av4 _ (by decide)) (by rw[hop,e];rfl)) fun u hm=>?_
  have e3:m.al7 p.nx f t' L=(m.Ww.keep 167772161 (({bC with load:=pkP p m.id f t' L}:Nb).more m.now)).sent az1:=by
   unfold Mc.al7 Mc.aK0 Mc.aH2 Mc.send Mc.ah5;rw[hop,hpk];show Mc.sent _ (og.ni ([255,255,255,255,255,255]++m.card) 2054 (WM.vE 1 m.card m.addr [0,0,0,0,0,0] 167772161))=_;rw[hcard,bo.addr];rfl
  rw[e3]at hm;refine⟨rfl,_,⟨by rw[dV];rfl,(aS9 o.Ww _ _).sent _,bo3 (bo1 ⟨e,⟨({bC with load:=pkP p m.id f t' L}:Nb).more m.now,?_,(by show wrap64 (0+1)=1;rw[BL _ (by decide)];rfl),rfl,rfl⟩,?_⟩)⟩,hm⟩
  ·rw[aa9]
   show m.cd.put _ _=_;rw[e];rfl
  rw[ah6 _ _ (by show m.gq.length≠m.tx;rw[bo.cb.tx];omega)];rfl
 ·refine on_ (ai9 hu o p.nx f t' L hnb hF hT hl x (by rw[hop];decide) (by rw[hop,e];rfl) (by rw[hop,e];rfl) hx.1) fun u hm=>?_
  have e3:m.Y6 p.nx f t' L x=m.Ww.sent (be0 p m.id f t' L):=by
   unfold Mc.Y6 Mc.send be0;rw[hpk,show m.Ww.card=m.card from rfl,hcard,hx.2.1,hx.2.2.1,hx.2.2.2.1,hx.2.2.2.2.1,hx.2.2.2.2.2.1,hx.2.2.2.2.2.2]
  rw[e3]at hm;refine⟨rfl,_,⟨by rw[dV];rfl,o.Ww.sent _,bo1 ⟨⟨x,e,hx,hx2⟩,?_,?_⟩⟩,hm⟩
  ·rw[aa9];rfl
  rw[ah6 _ _ (by show m.gq.length≠m.tx;rw[bo.cb.tx];omega)];rfl
 refine on_ (aX5 hu o p.nx f t' L hnb hF hT hl x (by rw[hop,e];exact aA8 _ x rfl) (by rw[hop,e];rfl) (by rw[hop,e];rfl) e1) fun u hm=>?_;have e3:m.Ty p.nx f t' L x=m.Ww.keep 167772161 {x with load:=pkP p m.id f t' L}:=by
  unfold Mc.Ty;rw[hop,hpk]
 rw[e3]at hm;refine⟨rfl,m.Ww.keep 167772161 {x with load:=pkP p m.id f t' L},⟨rfl,aS9 o.Ww _ _,bo3 (bo3 ⟨x,e,e1,?_,rfl⟩)⟩,hm⟩;show m.cd.put _ _=_;rw[e];rfl
theorem Bn.WS(r:Bn K p t pt j q m)(hf:m.fs<=3):Bn K p t pt j q m.WS:=by
 have b:=r.bo;have c:=b.cb;have o:=c.ok;have f:=o.fs;have o2:m.WS.Ok:=⟨o.1,o.2,o.3,o.4,o.5,o.6,o.7,o.8,o.9,o.10,o.11,o.12,⟨by show 0<=m.fs+1;omega,by show m.fs+1<=4;omega⟩,o.14,o.15,o.16⟩;refine⟨⟨⟨o2,c.k0,c.k1,c.k2,c.k3,c.k4,c.k5,c.name,c.cap,c.gQ,c.blk,c.win,c.rx,c.tx⟩,b.st,b.iB,b.mask,b.yz,b.FJ,b.ends,b.now,b.port,b.pb⟩,?_⟩
 cases j with
 |none=>
  have x:Re p pt m:=r.fe;exact(⟨x.ph,x.TE,x.since,x.img,x.sF,x.sT,x.sL,x.Be,x.Od⟩:Re p pt m.WS)
 |some k=>
  have x:Lo p pt k q m:=r.fe;exact(⟨x.ph,x.TE,x.since,x.img,x.sF,x.sT,x.sL,x.Wl,x.Be,x.Od,x.le⟩:Lo p pt k q m.WS)
theorem bL9(hu:Mx w0 P w B m)(po:p.Ok)(r:Bn K p t pt j q m)(hf:m.fs<=3)(ht:t<=90000)(hg:m.gq.length<16)(hc:Ce m∨∃a ua,a≠0/\Pe p a ua m):
  f_ Vh 92 #[p_ B] w fun ee w'=>ee=.returned (.tuple #[])/\∃mz,(Bn K p t pt j q mz/\mz.cq=m.cq/\mz.fs=m.fs+1/\FuB t m.fs mz.fu/\(Kw m/\Kw mz/\(∃i,bQ i/\mz.gq=m.gq++ [tP p i mz])∨m.cd=.map []/\Pe p 1 ((t+2:Nat):Int) mz/\mz.gq=m.gq++ [az1]∨(∃a ua,a≠0/\Pe p a ua m/\Pe p a ua mz)/\mz.gq=m.gq))/\Mx w0 P w' B mz:=by
 have o:=r.bo.cb.ok;have hid:=o.id;refine(eQ hu o hf (fun mz=>ToP p m.WS m.sF m.sT m.sL mz) ?_ (fun u hu2=> ?_)).mono ?_
 ·rintro mz ⟨e,_⟩
  exact⟨(by5 Mc.sF e:),(by5 Mc.sT e:),(by5 Mc.sL e:)⟩
 ·rw[r.bo.FJ]
  refine toP hu2 (r.WS hf).bo po m.sF m.sT m.sL o.sF o.sT o.sL hg ?_
  rcases hc with k|⟨a,ua,ha,x,i,e1,e2,_⟩
  ·exact bo1 (k.cd rfl)
  exact bo3 ⟨x,e1,by rw[e2];exact ha⟩
 rintro ee u ⟨rfl,mz,⟨e,oz,z⟩,hm⟩;have eF:mz.sF=m.sF:=(by5 Mc.sF e:);have eT:mz.sT=m.sT:=(by5 Mc.sT e:);have eL:mz.sL=m.sL:=(by5 Mc.sL e:);have eu:mz.fu=m.WS.fu:=(by5 Mc.fu e:);refine⟨rfl,mz,⟨(r.WS hf).same (bI9 e) oz,(by5 Mc.cq e:),(by5 Mc.fs e:),by rw[eu];exact bJ6 r.bo.now ⟨o.fs.1,hf⟩ ht,?_⟩,hm⟩
 rcases z with⟨k,e1,e2⟩|⟨k,⟨x,e1,e2,e3,e4⟩,e5⟩|⟨x,e1,e2,e3,e4⟩
 ·exact bo1 ⟨k.cd rfl,k.cd e1,m.id,hid,by unfold tP;rw[eF,eT,eL];exact e2⟩
 ·refine bo3 (bo1 ⟨k,⟨x,m.id,e1,e2,?_,hid,by rw[eF,eT,eL];exact e4⟩,e5⟩)
  rw[e3];show wrap64 (m.now+2)=_;rw[r.bo.now,BL _ (by omega)];omega
 rcases hc with(k|⟨y,k,k2,_⟩)|⟨a,ua,ha,y,i,y1,y2,y3,y4,y5⟩
 ·have e1':m.cd=ak x:=e1
  rw[k]at e1'
  cases e1'
 ·have e1':m.cd=ak x:=e1
  exact absurd ((X6 (e1'.symm.trans k)).trans k2.1) e2
 have e1':m.cd=ak x:=e1;have ex:ak x=ak y:=e1'.symm.trans y1;have hxy:({x with load:=pkP p m.id m.sF m.sT m.sL}:Nb).asks=a:=(X6 ex).trans y2;have hty:x.till=ua:=by
  have hh:=by5 (fun D:DataW Unit=>D.atKey (.int .u32 167772161) bC.d) ex;have hd:x.d=y.d:=hh;unfold Nb.d at hd;injection hd with hd
  simp only[rO,yf,Cm]at hd;exact hd.2.2.2.2.2.2.2.1.2.trans y3
 exact bo3 (bo3 ⟨⟨a,ua,ha,⟨y,i,y1,y2,y3,y4,y5⟩,⟨_,m.id,e3,hxy,hty,hid,(by rw[eF,eT,eL];rfl)⟩⟩,e4⟩)
theorem Bn.clock(r:Bn K p t pt j q m)(d:Int)(hd:0<=d/\d<=4294967295)(ht:t<=90000):Bn K p (t+1) pt j q (m.clock d):=by
 have b:=r.bo;have c:=b.cb;have o:=c.ok;refine⟨⟨⟨⟨hd,o.2,o.3,o.4,o.5,o.6,o.7,o.8,o.9,o.10,o.11,o.12,o.13,o.14,o.15,o.16⟩,c.k0,c.k1,c.k2,c.k3,c.k4,c.k5,c.name,c.cap,c.gQ,c.blk,c.win,c.rx,c.tx⟩,b.st,b.iB,b.mask,b.yz,b.FJ,b.ends,?_,b.port,b.pb⟩,?_⟩
 ·show wrap64 (m.now+1)=((t+1:Nat):Int)
  rw[b.now,BL _ (by omega)];omega
 cases j with
 |none=>
  have x:Re p pt m:=r.fe;exact(⟨x.ph,x.TE,x.since,x.img,x.sF,x.sT,x.sL,x.Be,x.Od⟩:Re p pt (m.clock d))
 |some k=>
  have x:Lo p pt k q m:=r.fe;exact(⟨x.ph,x.TE,x.since,x.img,x.sF,x.sT,x.sL,x.Wl,x.Be,x.Od,x.le⟩:Lo p pt k q (m.clock d))
def AfB(K:Nat->Nat)(p:Pm)(t:Nat)(pt:Int)(j:Option Nat)(q:Int)(m mz:Mc):Prop:=
 Bn K p t pt j q mz/\mz.cq=m.cq/\
 ((t:Int)<m.fu/\mz.fs=m.fs/\mz.fu=m.fu/\(Ce m/\Ce mz/\mz.gq=[]∨(∃a ua,a≠0/\Pe p a ua m/\((t:Int)<ua/\Pe p a ua mz/\mz.gq=[]∨ua<=(t:Int)/\Pe p (a+1) ((t+2:Nat):Int) mz/\mz.gq=[az1])))
 ∨m.fu<=(t:Int)/\mz.fs=m.fs+1/\FuB t m.fs mz.fu/\(Ce m/\Kw mz/\(∃i,bQ i/\mz.gq=[tP p i mz])∨Ce m/\Pe p 1 ((t+2:Nat):Int) mz/\mz.gq=[az1]∨(∃a ua,a≠0/\Pe p a ua m/\((t:Int)<ua/\Pe p a ua mz/\mz.gq=[]∨ua<=(t:Int)/\Pe p (a+1) ((t+2:Nat):Int) mz/\mz.gq=[az1]))))
theorem bI6(po:p.Ok)(r:Bn K p t pt j q m)(hg:m.gq=[])(hc:Ce m∨∃a ua,(a=1∨a=2)/\Pe p a ua m)(hf:m.fs<=3)(ht:t<=80000)(d:Int)(hd:0<=d/\d<=4294967295)(Z:Mc->Prop)(hZ:∀mz,AfB K p (t+1) pt j q m mz->Z mz):bi5 (Tk K) m d Z:=fun w Q B hb hr=>by
 have rc:=r.clock d hd (by omega);have hen:(m.clock d).ended=false:=rc.fe.lK.2;have hnow:(m.clock d).now=((t+1:Nat):Int):=rc.bo.now;refine ad5 hb d Z ((oH hb.mx d hen (fun m1=>vw m1=vw (m.clock d)/\m1.Ok/\(Ce m/\Ce m1/\m1.gq=[]∨∃a ua,a≠0/\Pe p a ua m/\(((t+1:Nat):Int)<ua/\Pe p a ua m1/\m1.gq=[]∨ua<=((t+1:Nat):Int)/\Pe p (a+1) ((t+1+2:Nat):Int) m1/\m1.gq=[az1]))) (fun m1=>vw m1=vw (m.clock d)/\m1.Ok/\(Ce m/\Ce m1/\m1.gq=[]∨∃a ua,a≠0/\Pe p a ua m/\(((t+1:Nat):Int)<ua/\Pe p a ua m1/\m1.gq=[]∨ua<=((t+1:Nat):Int)/\Pe p (a+1) ((t+1+2:Nat):Int) m1/\m1.gq=[az1]))) (AfB K p (t+1) pt j q m) (fun u hu=> ?_) (fun m1 u hm1 hu=> ?_) (fun m1 u hm1 hu=> ?_)).mono ?_)
 ·rcases hc with(e|⟨x,e,hx,hx2⟩)|⟨a,ua,ha,x,i,e1,e2,e3,e4,e5⟩
  ·refine on_ (sO hu (show(m.clock d).cd=.map []from e)) fun u2 hm=>?_
   exact⟨rfl,_,⟨rfl,rc.bo.cb.ok,bo1 ⟨bo1 e,bo1 e,hg⟩⟩,hm⟩
  ·refine(aS0 hu x hx.1 (show(m.clock d).cd=ak x from e)).mono ?_
   rintro ee u2 ⟨rfl,mz,⟨rfl,_⟩|⟨rfl,_⟩,hm⟩
   ·exact⟨rfl,_,⟨rfl,rc.bo.cb.ok,bo1 ⟨bo3 ⟨x,e,hx,hx2⟩,bo3 ⟨x,e,hx,hx2⟩,hg⟩⟩,hm⟩
   have o:=rc.bo.cb.ok;exact⟨rfl,(m.clock d).bQ8 (.map []),⟨rfl,⟨o.1,o.2,o.3,o.4,o.5,o.6,o.7,o.8,o.9,o.10,o.11,o.12,o.13,o.14,o.15,o.16⟩,bo1 ⟨bo3 ⟨x,e,hx,hx2⟩,bo1 rfl,hg⟩⟩,hm⟩
  have ha0:a≠0:=by omega
  refine(bi2 hu rc.bo.cb.ok x (by rw[e2];simpa using ha0) (by rw[e2];simp;omega) (show(m.clock d).cd=ak x from e1)).mono ?_;rintro ee u2 ⟨rfl,mz,⟨rfl,hlt⟩|⟨rfl,hle⟩,hm⟩
  ·rw[hnow,e3]at hlt
   exact⟨rfl,_,⟨rfl,rc.bo.cb.ok,bo3 ⟨a,ua,ha0,⟨x,i,e1,e2,e3,e4,e5⟩,bo1 ⟨hlt,⟨x,i,e1,e2,e3,e4,e5⟩,hg⟩⟩⟩,hm⟩
  rw[hnow,e3]at hle;have es:(m.clock d).aK0 167772161 x=((m.clock d).keep 167772161 (x.more (m.clock d).now)).sent az1:=by
   unfold Mc.aK0 Mc.aH2 Mc.send Mc.ah5;show Mc.sent _ (og.ni ([255,255,255,255,255,255]++(m.clock d).card) 2054 (WM.vE 1 (m.clock d).card (m.clock d).addr [0,0,0,0,0,0] 167772161))=_;rw[rc.bo.cb.card,rc.bo.addr];rfl
  rw[es]at hm;refine⟨rfl,_,⟨by rw[dV];rfl,(aS9 rc.bo.cb.ok _ _).sent _,bo3 ⟨a,ua,ha0,⟨x,i,e1,e2,e3,e4,e5⟩,bo3 ⟨hle,⟨x.more (m.clock d).now,i,?_,?_,?_,e4,?_⟩,?_⟩⟩⟩,hm⟩
  ·rw[aa9]
   show m.cd.put _ _=_;rw[e1];rfl
  ·show wrap64 (x.asks+1)=a+1
   rw[e2,BL _ (by omega)]
  ·show wrap64 ((m.clock d).now+2)=_
   rw[hnow,BL _ (by omega)];omega
  ·rw[aN1,aL8,aL9];exact e5
  rw[ah6 _ _ (by show m.gq.length≠m.tx;rw[hg,r.bo.cb.tx];decide)];show m.gq++_=_;rw[hg];rfl
 ·obtain⟨e,o,z⟩:=hm1
  have r1:Bn K p (t+1) pt j q m1:=rc.same (bI9 e) o;refine aR8 hu (bo1 r1.bo.st) _ (fun u2 hu2=>(bh0 hu2 r1.bo.ends r1.bo.st).mono ?_);rintro ee u3 ⟨rfl,hm⟩;exact⟨rfl,m1,⟨e,o,z⟩,hm⟩
 ·obtain⟨e,o,z⟩:=hm1
  have r1:Bn K p (t+1) pt j q m1:=rc.same (bI9 e) o;have ef:m1.fs=m.fs:=(by5 Mc.fs e:);have eu:m1.fu=m.fu:=(by5 Mc.fu e:);have eq:m1.cq=m.cq:=(by5 Mc.cq e:);refine Rs hu r1.fe.lK.1 _ (fun hlt=> ?_) (by rw[ef];exact hf) (fun hge u2 hu2=> ?_)
  ·rw[r1.bo.now,eu]at hlt
   refine⟨r1,eq,bo1 ⟨hlt,ef,eu,?_⟩⟩
   rcases z with⟨z0,z1,z2⟩|z
   ·exact bo1 ⟨z0,z1,z2⟩
   exact bo3 z
  rw[r1.bo.now,eu]at hge;refine(bL9 hu2 po r1 (by rw[ef];exact hf) (by omega) (by rcases z with⟨_,_,z2⟩|⟨a,ua,_,_,⟨_,_,z2⟩|⟨_,_,z2⟩⟩<;>rw[z2]<;>decide) ?_).mono ?_
  ·rcases z with⟨_,z1,z2⟩|⟨a,ua,ha,pe,⟨_,z1,z2⟩|⟨_,z1,z2⟩⟩
   ·exact bo1 z1
   ·exact bo3 ⟨a,ua,ha,z1⟩
   refine bo3 ⟨a+1,_,?_,z1⟩
   rcases hc with c|⟨a',ua',ha',y,i,y1,y2,_⟩
   ·obtain⟨y,i,y1,y2,_⟩:=pe
    rcases c with c|⟨y',c,c2,_⟩
    ·rw[c]at y1;cases y1
    exact absurd ((X6 (y1.symm.trans c)).trans c2.1) (by rw[y2];exact ha)
   obtain⟨x',i',x1,x2,_⟩:=pe;have:=(X6 (x1.symm.trans y1));omega
  rintro ee u3 ⟨rfl,mz,⟨y1,y2,y3,y4,y5⟩,hm⟩;rw[ef]at y3 y4;refine⟨rfl,mz,⟨y1,y2.trans eq,bo3 ⟨by omega,y3,y4,?_⟩⟩,hm⟩
  rcases z with⟨z0,z1,z2⟩|⟨a,ua,ha,z0,⟨zl,z1,z2⟩|⟨zl,z1,z2⟩⟩
  ·rcases y5 with⟨_,w1,i,w2,w3⟩|⟨_,w1,w2⟩|⟨⟨a,ua,ha,⟨x,i,x1,x2,_⟩,_⟩,_⟩
   ·exact bo1 ⟨z0,w1,i,w2,by rw[w3,z2];rfl⟩
   ·exact bo3 (bo1 ⟨z0,w1,by rw[w2,z2];rfl⟩)
   rcases z1 with c|⟨y',c,c2,_⟩
   ·rw[c]at x1;cases x1
   exact absurd ((X6 (x1.symm.trans c)).trans c2.1) (by rw[x2];exact ha)
  ·refine bo3 (bo3 ⟨a,ua,ha,z0,bo1 ⟨zl,?_⟩⟩)
   obtain⟨x,i,x1,x2,x3,x4⟩:=z1
   rcases y5 with⟨⟨y',c,c2,_⟩,_⟩|⟨c,_⟩|⟨⟨a',ua',ha',⟨x',i',x1',x2',x3',_⟩,w1⟩,w2⟩
   ·exact absurd ((X6 (x1.symm.trans c)).trans c2.1) (by rw[x2];exact ha)
   ·rw[c]at x1;cases x1
   have hd:=x1.symm.trans x1';have e1:a'=a:=by rw[<-x2',<-x2];exact(X6 hd).symm
   have e2:ua'=ua:=by
    have hh:=by5 (fun D:DataW Unit=>D.atKey (.int .u32 167772161) bC.d) hd;have hd2:x.d=x'.d:=hh;unfold Nb.d at hd2;injection hd2 with hd2
    simp only[rO,yf,Cm]at hd2;rw[<-x3',<-x3];exact hd2.2.2.2.2.2.2.2.1.2.symm
   rw[e1,e2]at w1;exact⟨w1,by rw[w2,z2]⟩
  refine bo3 (bo3 ⟨a,ua,ha,z0,bo3 ⟨zl,?_⟩⟩);obtain⟨x,i,x1,x2,x3,x4⟩:=z1;have ha1:a+1≠0:=by
   rcases hc with c|⟨a',ua',ha',y,i',y1,y2,_⟩
   ·obtain⟨y,i',y1,y2,_⟩:=z0
    rcases c with c|⟨y',c,c2,_⟩
    ·rw[c]at y1;cases y1
    exact absurd ((X6 (y1.symm.trans c)).trans c2.1) (by rw[y2];exact ha)
   obtain⟨x',i2,x1',x2',_⟩:=z0;have:=(X6 (x1'.symm.trans y1));omega
  rcases y5 with⟨⟨y',c,c2,_⟩,_⟩|⟨c,_⟩|⟨⟨a',ua',ha',⟨x',i',x1',x2',x3',_⟩,w1⟩,w2⟩
  ·exact absurd ((X6 (x1.symm.trans c)).trans c2.1) (by rw[x2];exact ha1)
  ·rw[c]at x1;cases x1
  have hd:=x1.symm.trans x1';have e1:a'=a+1:=by rw[<-x2',<-x2];exact(X6 hd).symm
  have e2:ua'=((t+1+2:Nat):Int):=by
   have hh:=by5 (fun D:DataW Unit=>D.atKey (.int .u32 167772161) bC.d) hd;have hd2:x.d=x'.d:=hh;unfold Nb.d at hd2;injection hd2 with hd2
   simp only[rO,yf,Cm]at hd2;rw[<-x3',<-x3];exact hd2.2.2.2.2.2.2.2.1.2.symm
  rw[e1,e2]at w1;exact⟨w1,by rw[w2,z2]⟩
 rintro ee w' ⟨rfl,mz,y,hm⟩;exact⟨rfl,mz,hZ mz y,hm⟩
end Ho
namespace Ho
open Bs Js
variable{w0 w w':fV} {P:Nat→Prop} {Q B H G:Nat} {p:Pm} {K:Nat→Nat} {m m' m1 m2 mz:Mc} {t k g:Nat} {pt q qq x:Int} {j:Option Nat} {h:Host}
structure Sl (K:Nat->Nat) (p:Pm) (t:Nat) (x:Int) (m:Mc):Prop where
 cb:Cb K p m
 st:m.st=x
 cd:m.cd=.map []
 ph:m.phase=0
 now:m.now=t
 img:m.ql=[]
theorem Sl.same(z:Sl K p t x m)(e:vx m'=vx m)(o:m'.Ok)(hc:m'.cd=m.cd):Sl K p t x m':=⟨z.cb.same e o,(by5 Mc.st e).trans z.st,hc.trans z.cd,(by5 Mc.phase e).trans z.ph,(by5 Mc.now e).trans z.now,(by5 Mc.ql e).trans z.img⟩
theorem Sl.ended(z:Sl K p t x m):m.ended=false:=by
 unfold Mc.ended;rw[z.ph];rfl
theorem Cb.clock(c:Cb K p m)(d:Int)(hd:0<=d/\d<=4294967295):Cb K p (m.clock d):=
 ⟨c.ok.clock d hd,c.k0,c.k1,c.k2,c.k3,c.k4,c.k5,c.name,c.cap,c.gQ,c.blk,c.win,c.rx,c.tx⟩
theorem Cb.at(c:Cb K p m)(b:Nat):Cb K p (m.at b):=⟨c.ok.at b,c.k0,c.k1,c.k2,c.k3,c.k4,c.k5,c.name,c.cap,c.gQ,c.blk,c.win,c.rx,c.tx⟩
theorem bL5(c:Cb K p m)(hst:m.st<4)(hg:m.gq=[])(kb:UInt8)(os:Dh.gU):m.say kb os=m.Ww.sent (YX m.id m.gF kb os)/\(m.say kb os).gq=[YX m.id m.gF kb os]/\vx (m.say kb os)=vx m/\(m.say kb os).Ok/\(m.say kb os).cd=m.cd/\(m.say kb os).cq=m.cq:=by
 have ha:m.addr=0:=by unfold Mc.addr;rw[bp0 hst]
 have e:m.say kb os=m.Ww.sent (YX m.id m.gF kb os):=by
  show m.Ww.sent _=_;unfold Mc.lD Mc.qz YX;rw[show m.Ww.card=m.card from rfl,c.card,ha];rfl
 refine⟨e,?_,by rw[e,bh5];rfl,by rw[e];exact c.ok.Ww.sent _,by rw[e,aa9];rfl,by rw[e,aN5];rfl⟩;rw[e,ah6 _ _ (by show m.gq.length≠m.tx;rw[hg,c.tx];decide)];show m.gq++_=_;rw[hg];rfl
theorem bL3(hn:m.now=(t:Int))(hf:0<=m.ws/\m.ws<=3)(ht:t<=90000):FuB t m.ws m.jR.wu:=bJ6 (m:={m with fs:=m.ws}) hn hf ht
def bP4(i gF:Int):ByteArray:=YX i gF 3 [(50,g_ 167772215),(54,g_ 167772161)]
def be6(x i gF:Int):ByteArray:=if x=1 then YX i gF 1 []else bP4 i gF
theorem bM7(i gF:Int):be6 1 i gF=YX i gF 1 []:=bp0 rfl
theorem bR4(i gF:Int):be6 2 i gF=YX i gF 3 [(50,g_ 167772215),(54,g_ 167772161)]:=bo4 (by decide)
theorem bI3(z:Sl K p t 0 m)(hg:m.gq=[])(ht:t<=20000)(d:Int)(hd:0<=d/\d<=4294967295)(Z:Mc->Prop)(hZ:∀mz,Sl K p (t+1) 1 mz->mz.cq=m.cq->mz.ws=1->FuB (t+1) 0 mz.wu->(∃i,bQ i/\mz.gq=[be6 1 i mz.gF])->Z mz):bi5 (Tk K) m d Z:=fun w Q B hb hr=>by
 refine on_ (Br hb ⟨z.cb.ok,bo1 z.st,z.cd,bo1 z.ph⟩ (fun e=>by rw[z.st]at e;cases e) d hd) ?_;rintro w' ⟨b,hm⟩;have e:m.nY d=(m.clock d).off:=by
  unfold Mc.nY;rw[bo4 (by show ¬(m.phase==3||m.phase==4)=true;rw[z.ph];decide)];unfold Mc.nz;rw[bp0 (show(m.clock d).st=0 from z.st)]
 have en:(m.clock d).now=((t+1:Nat):Int):=by
  show wrap64 (m.now+1)=_;rw[z.now,BL _ (by omega)];omega
 obtain⟨m1,hm1⟩:∃m1:Mc,m1=(({m.clock d with gF:=(m.clock d).draw}:Mc).n_.jR):=⟨_,rfl⟩;have c0:=z.cb;have c1:Cb K p m1:=by
  rw[hm1];exact⟨((c0.ok.clock d hd).Sj.n_.jR (by show(0:Int)<=3;decide)),c0.k0,c0.k1,c0.k2,c0.k3,c0.k4,c0.k5,c0.name,c0.cap,c0.gQ,c0.blk,c0.win,c0.rx,c0.tx⟩
 have s1:Sl K p (t+1) 1 m1:=by
  rw[hm1]at c1 ⊢;exact⟨c1,rfl,z.cd,z.ph,en,z.img⟩
 have w1:m1.ws=1:=by rw[hm1];rfl
 have u1:FuB (t+1) 0 m1.wu:=by
  rw[hm1];exact bL3 (m:=({m.clock d with gF:=(m.clock d).draw}:Mc).n_) en ⟨ah _,by show(0:Int)<=3;decide⟩ (by omega)
 have g1:m1.gq=[]:=by rw[hm1];exact hg
 have q1:m1.cq=m.cq:=by rw[hm1];rfl
 have e4:m.nY d=m1.say 1 []:=by rw[e,hm1];rfl
 clear hm1 e;obtain⟨e1,e2,e3,e5,e6,e7⟩:=bL5 c1 (by rw[s1.st];decide) g1 1 [];rw[e4]at hm;have s2:=s1.same e3 e5 e6;have ex:(m1.say 1 []).gF=m1.gF:=(by5 Mc.gF e3:);refine⟨rfl,_,hZ _ ⟨s2.cb.at b,s2.st,s2.cd,s2.ph,s2.now,s2.img⟩ (e7.trans q1) ((by5 Mc.ws e3).trans w1) ?_ ⟨m1.id,c1.ok.id,?_⟩,hm⟩
 ·show FuB (t+1) 0 (m1.say 1 []).wu
  rw[show(m1.say 1 []).wu=m1.wu from(by5 Mc.wu e3:)];exact u1
 show(m1.say 1 []).gq=[be6 1 m1.id (m1.say 1 []).gF];rw[e2,ex,bM7]
theorem bJ9(hx:x=1∨x=2/\m.iB=167772215/\m.iO=167772161)(z:Sl K p t x m)(hg:m.gq=[])(ht:t<=20000)(hw:1<=m.ws/\m.ws<=3)(d:Int)(hd:0<=d/\d<=4294967295)(Z:Mc->Prop)(hZ:∀mz,Sl K p (t+1) x mz->mz.cq=m.cq->mz.iB=m.iB->mz.iO=m.iO->(((t+1:Nat):Int)<m.wu/\mz.ws=m.ws/\mz.wu=m.wu/\mz.gq=[]∨m.wu<=((t+1:Nat):Int)/\mz.ws=m.ws+1/\FuB (t+1) m.ws mz.wu/\∃i,bQ i/\mz.gq=[be6 x i mz.gF])->Z mz):bi5 (Tk K) m d Z:=fun w Q B hb hr=>by
 refine on_ (Br hb ⟨z.cb.ok,by rw[z.st];rcases hx with e|⟨e,_⟩<;>rw[e]<;>decide,z.cd,bo1 z.ph⟩ (fun e=>by rw[z.st]at e;rcases hx with e1|⟨e1,_⟩<;>rw[e1]at e<;>cases e) d hd) ?_;rintro w' ⟨b,hm⟩;have en:(m.clock d).now=((t+1:Nat):Int):=by
  show wrap64 (m.now+1)=_;rw[z.now,BL _ (by omega)];omega
 have cc:=z.cb.clock d hd;have sc:Sl K p (t+1) x (m.clock d):=⟨cc,z.st,z.cd,z.ph,en,z.img⟩;have ne: ¬(m.clock d).ended=true:=by rw[sc.ended];decide
 by_cases hlt:((t+1:Nat):Int)<m.wu
 ·have hlt':((t+1:Nat):Int)<(m.clock d).wu:=hlt
  have e:m.nY d=m.clock d:=by
   unfold Mc.nY;rw[bo4 ne];unfold Mc.nz;rw[sc.st]
   rcases hx with e1|⟨e1,_⟩
   ·rw[e1,bo4 (by decide),bp0 rfl]
    unfold Mc.A_;rw[en,bp0 hlt']
   rw[e1,bo4 (by decide),bo4 (by decide),bp0 rfl];unfold Mc.Lm;rw[en,bp0 hlt']
  rw[e]at hm;exact⟨rfl,_,hZ _ ⟨cc.at b,sc.st,sc.cd,sc.ph,sc.now,sc.img⟩ rfl rfl rfl (bo1 ⟨hlt,rfl,rfl,hg⟩),hm⟩
 have hlt': ¬((t+1:Nat):Int)<(m.clock d).wu:=hlt;obtain⟨m1,hm1⟩:∃m1:Mc,m1=(m.clock d).jR:=⟨_,rfl⟩;obtain⟨kb,os,hko,hst4⟩:∃(kb:UInt8) (os:Dh.gU),m.nY d=m1.say kb os/\∀i gF:Int,YX i gF kb os=be6 x i gF:=by
  unfold Mc.nY;rw[bo4 ne];unfold Mc.nz;rw[sc.st];have hw4: ¬(m.clock d).ws=4:=by
   show ¬m.ws=4;omega
  rcases hx with e1|⟨e1,e2,e3⟩
  ·refine⟨1,[],?_,fun i gF=>by rw[e1,bM7]⟩
   rw[e1,bo4 (by decide),bp0 rfl];unfold Mc.A_;rw[en,bo4 hlt',bo4 hw4,hm1]
  refine⟨3,[(50,g_ 167772215),(54,g_ 167772161)],?_,fun i gF=>by rw[e1,bR4]⟩;rw[e1,bo4 (by decide),bo4 (by decide),bp0 rfl];unfold Mc.Lm;rw[en,bo4 hlt',bo4 hw4,hm1];have eo:(m.clock d).qD=[(50,g_ 167772215),(54,g_ 167772161)]:=by
   unfold Mc.qD;show [(50,g_ m.iB),(54,g_ m.iO)]=_;rw[e2,e3]
  rw[eo]
 have c1:Cb K p m1:=by
  rw[hm1];exact⟨cc.ok.jR (by show m.ws<=3;omega),cc.k0,cc.k1,cc.k2,cc.k3,cc.k4,cc.k5,cc.name,cc.cap,cc.gQ,cc.blk,cc.win,cc.rx,cc.tx⟩
 have s1:Sl K p (t+1) x m1:=by
  rw[hm1]at c1 ⊢;exact⟨c1,sc.st,sc.cd,sc.ph,sc.now,sc.img⟩
 have w1:m1.ws=m.ws+1:=by rw[hm1];rfl
 have u1:FuB (t+1) m.ws m1.wu:=by
  rw[hm1];exact bL3 (m:=m.clock d) en ⟨by show 0<=m.ws;omega,hw.2⟩ (by omega)
 have g1:m1.gq=[]:=by rw[hm1];exact hg
 have q1:m1.cq=m.cq:=by rw[hm1];rfl
 have a1:m1.iB=m.iB:=by rw[hm1];rfl
 have v1:m1.iO=m.iO:=by rw[hm1];rfl
 clear hm1;obtain⟨e1,e2,e3,e5,e6,e7⟩:=bL5 c1 (by rw[s1.st];rcases hx with e|⟨e,_⟩<;>rw[e]<;>decide) g1 kb os;rw[hko]at hm;have s2:=s1.same e3 e5 e6;have ex:(m1.say kb os).gF=m1.gF:=(by5 Mc.gF e3:);refine⟨rfl,_,hZ _ ⟨s2.cb.at b,s2.st,s2.cd,s2.ph,s2.now,s2.img⟩ (e7.trans q1) ((by5 Mc.iB e3).trans a1) ((by5 Mc.iO e3).trans v1) (bo3 ⟨by omega,(by5 Mc.ws e3).trans w1,?_,m1.id,c1.ok.id,?_⟩),hm⟩
 ·show FuB (t+1) m.ws (m1.say kb os).wu
  rw[show(m1.say kb os).wu=m1.wu from(by5 Mc.wu e3:)];exact u1
 show(m1.say kb os).gq=[be6 x m1.id (m1.say kb os).gF];rw[e2,ex,hst4]
structure Hx (p:Pm) (h:Host):Prop where
 image:h.image=p.img
 gK:h.gK=4294967295
 next:h.next=p.nx
 opts:h.opts=p.ob
 id:0<=h.id/\h.id<=65535
theorem bh4(c:Hx p h)(gF:Int)(kb:UInt8):ad8 h gF kb=og.ni [2,0,0,0,0,42,2,0,0,0,0,7] 2048 (Ip.Db h.Ww.id 9 17 167772161 167772215 (Ud.sH 67 68 167772161 167772215 (Dh.nH true gF 0 167772215 p.nx [2,0,0,0,0,42] (Ws kb [10,0,0,1] [255,255,255,255])))):=by
 unfold ad8;rw[c.gK,c.next];rfl
theorem bO0(po:p.Ok)(z:Sl K p t 1 m)(hg:m.gq=[])(ht:t<=90000)(c:Hx p h)(gF:Int)(hxid:m.gF=gF):Ev K (ad8 h gF 2) m (fun mz=>Sl K p t 2 mz/\mz.gF=gF/\mz.iB=167772215/\mz.iO=167772161/\mz.ws=1/\FuB t 0 mz.wu/\∃i,bQ i/\mz.gq=[be6 2 i mz.gF]):=by
 intro m2 s;have z2:=z.same s.e s.ok s.cd;refine⟨fun e=>(by rw[z2.ended]at e;cases e),fun _ w0 P u B hr hu=> ?_⟩;have cc:=z2.cb;have o2:=s.ok;have x2:m2.gF=gF:=(by5 Mc.gF s.e).trans hxid;have g2:m2.gq=[]:=s.gq.trans hg;have q:=am2 hu hr Tk.base o2 z2.st 2 0 0 0 0 7 h.Ww.id 167772161 167772215 167772215 p.nx 10 0 0 1 255 255 255 255 (QQ _) (by decide) (by decide) (by decide) (by decide) po.nxb;rw[cc.k0,cc.k1,cc.k2,cc.k3,cc.k4,cc.k5,x2]at q;rw[bh4 c];refine on_ q ?_;rintro w' ⟨mz,hmz,hm⟩;refine⟨rfl,mz,?_,hm⟩;rw[hmz];obtain⟨m3,hm3⟩:=ex_ ((m2.offers 167772215 (vK 10 0 0 1)).oV.jR);have o3:m3.Ok:=by rw[hm3];exact(o2.offers _ _ (by decide) (aw7 _ _ _ _)).oV.jR (by show(0:Int)<=3;decide)
 have c3:Cb K p m3:=by
  rw[hm3]at o3 ⊢;exact⟨o3,cc.k0,cc.k1,cc.k2,cc.k3,cc.k4,cc.k5,cc.name,cc.cap,cc.gQ,cc.blk,cc.win,cc.rx,cc.tx⟩
 have s3:Sl K p t 2 m3:=by
  rw[hm3]at c3 ⊢;exact⟨c3,rfl,z2.cd,z2.ph,z2.now,z2.img⟩
 have a3:m3.iB=167772215:=by rw[hm3];rfl
 have v3:m3.iO=167772161:=by rw[hm3];rfl
 have w3:m3.ws=1:=by rw[hm3];rfl
 have x3:m3.gF=gF:=by rw[hm3];exact x2
 have u3:FuB t 0 m3.wu:=by
  rw[hm3];exact bL3 (m:=(m2.offers 167772215 (vK 10 0 0 1)).oV) z2.now ⟨ah _,by show(0:Int)<=3;decide⟩ ht
 have g3:m3.gq=[]:=by rw[hm3];exact g2
 have q3:m3.cq=m2.cq:=by rw[hm3];rfl
 rw[<-hm3];clear hm3 hmz;have eo:(m2.offers 167772215 (vK 10 0 0 1)).qD=[(50,g_ 167772215),(54,g_ 167772161)]:=rfl;rw[eo];obtain⟨e1,e2,e3,e5,e6,e7⟩:=bL5 c3 (by rw[s3.st];decide) g3 3 [(50,g_ 167772215),(54,g_ 167772161)];have ex:(m3.say 3 [(50,g_ 167772215),(54,g_ 167772161)]).gF=m3.gF:=(by5 Mc.gF e3:);refine⟨⟨s3.same e3 e5 e6,ex.trans x3,(by5 Mc.iB e3).trans a3,(by5 Mc.iO e3).trans v3,(by5 Mc.ws e3).trans w3,?_,m3.id,o3.id,?_⟩,e7.trans q3⟩
 ·rw[show(m3.say 3 [(50,g_ 167772215),(54,g_ 167772161)]).wu=m3.wu from(by5 Mc.wu e3:)]
  exact u3
 rw[e2,ex,bR4]
theorem bK1(po:p.Ok)(z:Sl K p t 2 m)(c:Hx p h)(gF:Int)(hxid:m.gF=gF):Ev K (ad8 h gF 2) m (fun mz=>Sm mz m):=by
 intro m2 s;have z2:=z.same s.e s.ok s.cd;refine⟨fun e=>(by rw[z2.ended]at e;cases e),fun _ w0 P u B hr hu=> ?_⟩;have cc:=z2.cb;have x2:m2.gF=gF:=(by5 Mc.gF s.e).trans hxid;have q:=bj1 hu hr Tk.base s.ok (by rw[z2.st];decide) 2 0 0 0 0 7 h.Ww.id 167772161 167772215 167772215 p.nx 10 0 0 1 255 255 255 255 (QQ _) (by decide) (by decide) (by decide) po.nxb;rw[cc.k0,cc.k1,cc.k2,cc.k3,cc.k4,cc.k5,x2]at q;rw[bh4 c];refine on_ q ?_;rintro w' ⟨mz,hmz,hm⟩;rw[hmz]at hm;exact⟨rfl,m2,⟨s,rfl⟩,hm⟩
structure Pb (K:Nat->Nat) (p:Pm) (t g:Nat) (m:Mc):Prop where
 sl:Sl K p t 3 m
 iB:m.iB=167772215
 mask:m.mask=4294967040
 yz:m.yz=167772161
 FJ:m.FJ=p.nx
 ends:m.ends=false
 gr:m.gr=g
theorem Pb.same(z:Pb K p t g m)(e:vx m'=vx m)(o:m'.Ok)(hc:m'.cd=m.cd):Pb K p t g m':=⟨z.sl.same e o hc,(by5 Mc.iB e).trans z.iB,(by5 Mc.mask e).trans z.mask,(by5 Mc.yz e).trans z.yz,(by5 Mc.FJ e).trans z.FJ,(by5 Mc.ends e).trans z.ends,(by5 Mc.gr e).trans z.gr⟩
theorem bS1(po:p.Ok):m.yQ aN3 p.nx (vK 10 0 0 1)=({m with iO:=167772161,gr:=m.now,mask:=4294967040,yz:=167772161,FJ:=p.nx,ends:=false,old:=2147483647,iZ:=3758096377,over:=4294967295,st:=3}:Mc).ask m.iB:=by
 have ht:yJ.pF aN3=some 4294967295:=by decide
 rcases po.nx with e|e<;>rw[e]
 all_goals
  unfold Mc.yQ;rw[ht];rfl
theorem bR9(po:p.Ok)(z:Sl K p t 2 m)(hg:m.gq=[])(ha:m.iB=167772215)(hs:m.iO=167772161)(c:Hx p h)(gF:Int)(hxid:m.gF=gF):Ev K (ad8 h gF 5) m (fun mz=>Pb K p t t mz/\mz.gF=gF/\mz.gq=[Yg]):=by
 intro m2 s;have z2:=z.same s.e s.ok s.cd;refine⟨fun e=>(by rw[z2.ended]at e;cases e),fun _ w0 P u B hr hu=> ?_⟩;have cc:=z2.cb;have o2:=s.ok;have x2:m2.gF=gF:=(by5 Mc.gF s.e).trans hxid;have g2:m2.gq=[]:=s.gq.trans hg;have a2:m2.iB=167772215:=(by5 Mc.iB s.e).trans ha;have s2:m2.iO=167772161:=(by5 Mc.iO s.e).trans hs;have q:=av5 hu hr Tk.base o2 z2.st 2 0 0 0 0 7 h.Ww.id 167772161 167772215 p.nx 10 0 0 1 255 255 255 255 (QQ _) (by decide) (by decide) (by rw[s2];decide) po.nxb;rw[cc.k0,cc.k1,cc.k2,cc.k3,cc.k4,cc.k5,x2,a2]at q;rw[bh4 c];refine on_ q ?_;rintro w' ⟨mz,hmz,hm⟩;refine⟨rfl,mz,?_,hm⟩;obtain⟨m3,hm3⟩:∃m3:Mc,m3={m2 with iO:=167772161,gr:=m2.now,mask:=4294967040,yz:=167772161,FJ:=p.nx,ends:=false,old:=2147483647,iZ:=3758096377,over:=4294967295,st:=3}:=⟨_,rfl⟩;have b1:(0:Int)<=167772161/\(167772161:Int)<=4294967295:=by decide
 have o:=o2;have c3:Cb K p m3:=by
  rw[hm3];exact⟨⟨o.1,o.2,o.3,o.4,b1,o.6,⟨by show(0:Int)<=4294967040;decide,by show(4294967040:Int)<=4294967295;decide⟩,b1,po.nxb,⟨by show(0:Int)<=2147483647;decide,by show(2147483647:Int)<=4294967295;decide⟩,⟨by show(0:Int)<=3758096377;decide,by show(3758096377:Int)<=4294967295;decide⟩,⟨by show(0:Int)<=4294967295;decide,by show(4294967295:Int)<=4294967295;decide⟩,o.13,o.14,o.15,o.16⟩,cc.k0,cc.k1,cc.k2,cc.k3,cc.k4,cc.k5,cc.name,cc.cap,cc.gQ,cc.blk,cc.win,cc.rx,cc.tx⟩
 have e1:mz=m3.sent Yg:=by
  rw[hmz];show m2.yQ aN3 p.nx (vK 10 0 0 1)=_;rw[bS1 po,<-hm3,a2];show m3.sent _=_;unfold Mc.Ej Yg;rw[c3.card];rfl
 have g3:m3.gq=[]:=by rw[hm3];exact g2
 have q3:m3.cq=m2.cq:=by rw[hm3]
 have x3:m3.gF=gF:=by rw[hm3];exact x2
 have pr3:Pb K p t t m3:=by
  rw[hm3]at c3 ⊢;exact⟨⟨c3,rfl,z2.cd,z2.ph,z2.now,z2.img⟩,a2,rfl,rfl,rfl,rfl,z2.now⟩
 rw[e1];refine⟨⟨pr3.same (bh5 _ _) (c3.ok.sent _) (by rw[aa9]),by rw[aB0];exact x3,?_⟩,by rw[aN5];exact q3⟩;rw[ah6 _ _ (by rw[g3,c3.tx];decide),g3];rfl
theorem bQ9(po:p.Ok)(z:Pb K p t g m)(c:Hx p h)(gF:Int)(hxid:m.gF=gF):Ev K (ad8 h gF 5) m (fun mz=>Sm mz m):=by
 intro m2 s;have z2:=z.same s.e s.ok s.cd;refine⟨fun e=>(by rw[z2.sl.ended]at e;cases e),fun _ w0 P u B hr hu=> ?_⟩;have cc:=z2.sl.cb;have x2:m2.gF=gF:=(by5 Mc.gF s.e).trans hxid;have q:=bF6 hu hr Tk.base s.ok z2.sl.st 2 0 0 0 0 7 h.Ww.id 167772161 167772215 167772215 p.nx 10 0 0 1 255 255 255 255 (QQ _) (by decide) (by decide) (by decide) po.nxb;rw[cc.k0,cc.k1,cc.k2,cc.k3,cc.k4,cc.k5,x2]at q;rw[bh4 c];refine on_ q ?_;rintro w' ⟨mz,hmz,hm⟩;rw[hmz]at hm;exact⟨rfl,m2,⟨s,rfl⟩,hm⟩
theorem bL2(z:Pb K p t g m)(hg:m.gq=[])(ht:t+1<g+2)(hb:t<=20000)(hgt:g<=20000)(d:Int)(hd:0<=d/\d<=4294967295)(Z:Mc->Prop)(hZ:∀mz,Pb K p (t+1) g mz->mz.cq=m.cq->mz.gq=[]->Z mz):bi5 (Tk K) m d Z:=fun w Q B hbx hr=>by
 refine on_ (Br hbx ⟨z.sl.cb.ok,bo3 (bo3 (bo3 z.sl.st)),z.sl.cd,bo1 z.sl.ph⟩ (fun _=>by rw[z.sl.now,z.gr,BL _ (by omega),BL _ (by omega)];omega) d hd) ?_;rintro w' ⟨b,hm⟩;have e:m.nY d=m.clock d:=by
  unfold Mc.nY;rw[bo4 (by show ¬(m.phase==3||m.phase==4)=true;rw[z.sl.ph];decide)];unfold Mc.nz;have hs:(m.clock d).st=3:=z.sl.st;rw[hs];rfl
 rw[e]at hm;refine⟨rfl,_,hZ _ ⟨⟨(z.sl.cb.clock d hd).at b,z.sl.st,z.sl.cd,z.sl.ph,?_,z.sl.img⟩,z.iB,z.mask,z.yz,z.FJ,z.ends,z.gr⟩ rfl hg,hm⟩;show wrap64 (m.now+1)=((t+1:Nat):Int);rw[z.sl.now,BL _ (by omega)];omega
theorem bG0{n:Nat}(h:n<4000):(Lib.itoa (n:Int)).length<=32:=by
 have d:=bg9 n h;rw[d.itoa];exact bo6 d.len (by decide)
theorem bF2(po:p.Ok)(z:Pb K p t g m)(hg:m.gq=[])(ht:t+1=g+2)(hb:t<=20000)(d:Int)(hd:0<=d/\d<=4294967295)(Z:Mc->Prop)(hZ:∀mz,Bn K p (t+1) (1024+d%60000) none 0 mz->mz.cq=m.cq->mz.fs=1->FuB (t+1) 0 mz.fu->Pe p 1 ((t+1+2:Nat):Int) mz->mz.gq=[az1]->Z mz):bi5 (Tk K) m d Z:=fun w Q B hbx hr=>by
 have c:=z.sl.cb;have hen:(m.clock d).ended=false:=z.sl.ended;have en:(m.clock d).now=((t+1:Nat):Int):=by
  show wrap64 (m.now+1)=_;rw[z.sl.now,BL _ (by omega)];omega
 have cc:=c.clock d hd;have hbk:=po.bk;have hwn:=po.wn;obtain⟨pt,hpt⟩:∃pt:Int,pt=1024+d%60000:=⟨_,rfl⟩;have pb:1024<=pt/\pt<=61023:=by rw[hpt];omega
 rw[<-hpt]at hZ;refine ad5 hbx d Z ((oH hbx.mx d hen (· =m.clock d) (fun mz=>Bn K p (t+1) pt none 0 mz/\mz.cq=m.cq/\mz.fs=1/\FuB (t+1) 0 mz.fu/\Pe p 1 ((t+1+2:Nat):Int) mz/\mz.gq=[az1]) (fun mz=>Bn K p (t+1) pt none 0 mz/\mz.cq=m.cq/\mz.fs=1/\FuB (t+1) 0 mz.fu/\Pe p 1 ((t+1+2:Nat):Int) mz/\mz.gq=[az1]) (fun u hu=> ?_) (fun m1 u hm1 hu=> ?_) (fun m2 u hm2 hu=> ?_)).mono ?_)
 ·refine on_ (sO hu (show(m.clock d).cd=.map []from z.sl.cd)) fun u2 hm=>?_
  exact⟨rfl,_,rfl,hm⟩
 ·subst hm1
  refine aP hu (show(m.clock d).st=3 from z.sl.st) (by
   rw[en,show(m.clock d).gr=m.gr from rfl,z.gr,BL _ (by omega)];omega) _ (fun u2 hu2=> ?_)
  obtain⟨mb,hmb⟩:∃mb:Mc,mb={m.clock d with st:=4}:=⟨_,rfl⟩;rw[<-hmb]at hu2;have o:=cc.ok;have ob:mb.Ok:=by rw[hmb];exact⟨o.1,o.2,o.3,o.4,o.5,o.6,o.7,o.8,o.9,o.10,o.11,o.12,o.13,o.14,o.15,o.16⟩
  have eb:mb.blk=(p.bk:Int):=by rw[hmb];exact c.blk
  have ew:mb.win=(p.wn:Int):=by rw[hmb];exact c.win
  have enm:mb.name=⟨#[107,101,114,110,101,108]⟩:=by rw[hmb];exact c.name
  have ed:mb.draw=d:=by rw[hmb];rfl
  refine bA hu2 hr.tq ob (by rw[eb];omega) (by rw[ew];omega) (by rw[enm];decide) (by rw[eb];exact bG0 (by omega)) (by rw[ew];exact bG0 (by omega)) _ pt (by rw[ed,hpt]) (fun u3 hu3=> ?_);have hz:=Zb (mb.fresh pt);have eR:(mb.fresh pt).XK=rqB p:=by
   show(⟨(Tf.U7 (Xc mb.name.data.toList mb.blk mb.win)).toArray⟩:ByteArray)=_;rw[enm,eb,ew];rfl
  rw[eR]at hu3 hz;obtain⟨ma,hma⟩:∃ma:Mc,ma=mb.asking pt (rqB p):=⟨_,rfl⟩;rw[<-hma]at hu3;have oa:ma.Ok:=by
   rw[hma];exact⟨ob.1,ob.2,ob.3,ob.4,ob.5,ob.6,ob.7,ob.8,ob.9,ob.10,ob.11,ob.12,⟨ah _,by show(0:Int)<=4;decide⟩,⟨by show(0:Int)<=pt;omega,by show pt<=65535;omega⟩,⟨by show(0:Int)<=69;decide,by show(69:Int)<=65535;decide⟩,by show(rqB p).size<=262144;omega⟩
  have ra:Bn K p (t+1) pt none 0 ma:=by
   rw[hma,hmb]at oa ⊢;refine⟨⟨⟨oa,c.k0,c.k1,c.k2,c.k3,c.k4,c.k5,c.name,c.cap,c.gQ,c.blk,c.win,c.rx,c.tx⟩,rfl,z.iB,z.mask,z.yz,z.FJ,z.ends,en,rfl,pb⟩,?_⟩;show Re p pt _;exact⟨rfl,rfl,rfl,z.sl.img,rfl,rfl,rfl,rfl,rfl⟩
  have ga:ma.gq=[]:=by rw[hma,hmb];exact hg
  have qa:ma.cq=m.cq:=by rw[hma,hmb];rfl
  have ca:ma.cd=.map []:=by rw[hma,hmb];exact z.sl.cd
  have fa:ma.fs=0:=by rw[hma];rfl
  refine on_ (bL9 hu3 po ra (by rw[fa];decide) (by omega) (by rw[ga];decide) (bo1 (bo1 ca))) ?_;rintro u4 ⟨mz,⟨y1,y2,y3,y4,y5⟩,hm⟩;rw[fa]at y3 y4;refine⟨rfl,mz,⟨y1,y2.trans qa,y3,y4,?_⟩,hm⟩
  rcases y5 with⟨⟨x,e,_⟩,_⟩|⟨_,w1,w2⟩|⟨⟨a,ua,ha,⟨x,i,e,_⟩,_⟩,_⟩
  ·rw[ca]at e;cases e
  ·exact⟨w1,by rw[w2,ga];rfl⟩
  rw[ca]at e;cases e
 ·obtain⟨y1,y2,y3,y4,y5⟩:=hm2
  have hfu:=y4.1;exact Rs hu y1.fe.lK.1 _ (fun _=>⟨y1,y2,y3,y4,y5⟩) (by rw[y3];decide) (fun hx=>absurd (by rw[y1.bo.now];have:(2:Int) ^ (0:Int).toNat=1:=rfl;omega) hx)
 rintro ee w' ⟨rfl,mz,⟨y1,y2,y3,y4,y5,y6⟩,hm⟩;exact⟨rfl,mz,hZ mz y1 y2 y3 y4 y5 y6,hm⟩
end Ho
namespace Ho
open Bs Js
variable{w0 w w':fV} {P:Nat→Prop} {Q B H G:Nat} {p:Pm} {K:Nat→Nat} {m m' m1 m2 mz:Mc} {t k g s0 c:Nat} {pt q qq x i:Int} {j:Option Nat} {h h':Host} {l:List ByteArray}
structure Hl (p:Pm) (q:Int) (s0:Nat) (h:Host):Prop where
 port:h.port=q
 pq:1<=q/\q<=4
 block:h.block=p.b
 window:h.window=p.w
 sent:h.sent=s0
 whn:h.whn<=h.now
 last:h.whn=h.now->h.last=s0
theorem Hl.u16(z:Hl p q s0 h):bQ q/\q≠67:=by have:=z.pq;exact⟨⟨by omega,by omega⟩,by omega⟩
def BkL(p:Pm)(q pt:Int)(s0:Nat)(l:List ByteArray):Prop:=∀a ∈ l,∃id jx,bQ id/\jx<=p.L/\jx<s0+p.w/\a=blP p id q pt jx
theorem Hx.Ww(c:Hx p h):Hx p h.Ww:=⟨c.image,c.gK,c.next,c.opts,QQ _⟩
theorem Hx.Wv(x:Hx p h)(u v:Int)(N:Nat):Hx p ((h.Wv u v).YP N):=by
 refine⟨x.image,x.gK,x.next,x.opts,?_⟩;unfold Host.YP;show 0<=(if N=0 then h.id else IntKind.u16.wrap (h.id+N))/\(if N=0 then h.id else IntKind.u16.wrap (h.id+N))<=65535
 split
 ·exact x.id
 exact QQ _
theorem Hx.YP(x:Hx p h)(N:Nat):Hx p (h.YP N):=by
 refine⟨x.image,x.gK,x.next,x.opts,?_⟩;unfold Host.YP;show 0<=(if N=0 then h.id else IntKind.u16.wrap (h.id+N))/\(if N=0 then h.id else IntKind.u16.wrap (h.id+N))<=65535
 split
 ·exact x.id
 exact QQ _
theorem bM9(x:Hx p h)(hp:h.port=q)(jx:Nat):h.bM1 p.b pt jx=blP p h.Ww.id q pt jx:=by
 unfold Host.bM1 Host.frame Host.blG blP inP Pm.blk;rw[x.next,hp,x.image];rfl
theorem bh6(h:Host)(b:Nat)(f:Int)(s n:Nat):(h.bd8 b f s n).length=n:=by
 unfold Host.bd8;simp
theorem bR1(x:Hx p h)(hp:h.port=q)(s N:Nat)(hN:N<=p.w)(hL:s+N<=p.L+1):BkL p q pt s (h.bd8 p.b pt s N):=by
 intro a ha;unfold Host.bd8 at ha;rw[bC4]at ha;obtain⟨i,hi,rfl⟩:=ha;rw[List.mem_range]at hi;exact⟨(h.YP i).Ww.id,s+i,QQ _,by omega,by omega,bM9 (x.YP i) hp (s+i)⟩
theorem bL4(h:Host):h.YP 0=h:=by cases h;simp[Host.YP]
theorem bj2(x:Hx p h)(hp:h.port=q)(s N:Nat):∃l',h.bd8 p.b pt s (N+1)=blP p h.Ww.id q pt s::l'/\(N=0->l'=[]):=by
 unfold Host.bd8;rw[List.range_succ_eq_map,bv0,bL4,bC6,bM9 x hp s];exact⟨_,rfl,fun e=>by rw[e];rfl⟩
theorem bg6(hx:Hx p h)(po:p.Ok)(z:Hl p q s0 h)(hc:c<=600)(h1:h.last=(c:Int))(h2:h.whn=h.now)(hi:bQ i)(hpt:1024<=pt/\pt<=61023):YC NA h (be0 p i pt q (XM c)) [] h:=by
 intro w H ka cd hng;obtain⟨ek,ez⟩:=aC9 c;have hu:=z.u16;have hcm:c%65536=c:=bC5 (by omega);have q2:=ag3 ka cd 2 0 0 0 0 7 i pt h.port (XM c) hi (by rw[hx.next];exact po.nxb) (by omega) (by rw[z.port];exact hu.1) (by rw[z.port];exact hu.2) ez ⟨4,c%65536,[],[],[]⟩ rfl ek ⟨fun e=>absurd e (by show ¬(4=1);decide),fun e=>absurd e (by show ¬(4=6);decide),fun e=>absurd e (by show ¬(4=3);decide),fun _=>⟨rfl,rfl,rfl⟩,fun e=>absurd e (by show ¬(4=5);decide)⟩ (by show c%65536<65536;omega) (fun ee w'=>∃ao cp,ee=.returned (.tuple #[.slice ao 0 cp,.bool true])/\w'.ownsRow w.heap.size 9 1 (.slice ao 0 cp) 0 (Js.strs [])/\At w' H h/\PU w w' H) (fun u sa sc ku cu hb hA had=> ?_)
 ·rw[hx.next,z.port]at q2
  exact q2
 refine on_ (bL6 ku cu pt (XM c) (((c%65536:Nat):Int)) _ _ _ (by rw[h1,hcm]) h2 (by omega)) ?_;rintro w' ⟨k2,t2⟩;exact⟨_,_,rfl,none,0,rfl,bq3 _ _ _ _,k2,⟨t2.os.trans hb.os,t2.tape.trans hb.tape,t2.output.trans hb.output,bo6 hb.size t2.size,fun j hj hn=>(t2.block j (bo9 hj hb.size) hn).trans (hb.block j hj)⟩⟩
theorem be7(hx:Hx p h)(po:p.Ok)(z:Hl p q s0 h)(hc:s0<=c/\c<=s0+p.w/\c<=p.L+1)(hn:h.last=(c:Int)->h.whn≠h.now)(hi:bQ i)(hpt:1024<=pt/\pt<=61023):
  ∃l h',YC NA h (be0 p i pt q (XM c)) l h'/\l.length<=8/\BkL p q pt c l/\Hx p h'/\Hl p q c h'/\h'.whn=h'.now/\h'.now=h.now/\h'.last=(c:Int)/\(c<=p.L->∃id l',bQ id/\l=blP p id q pt c::l'):=by
 obtain⟨ek,ez⟩:=aC9 c;have hu:=z.u16;have hL:=po.L5;have hw8:=po.w8;have hb8:=po.b8;have hlen:=po.len;have hcm:c%65536=c:=bC5 (by omega);obtain⟨N,hNe⟩:=ex_ (min p.w (p.L+1-c));have hx':Hx p (h.Wv (c:Int) (c:Int)):=⟨hx.image,hx.gK,hx.next,hx.opts,hx.id⟩;have hp':(h.Wv (c:Int) (c:Int)).port=q:=z.port;refine⟨(h.Wv (c:Int) (c:Int)).bd8 p.b pt c N,(h.Wv (c:Int) (c:Int)).YP N,?_,by rw[bh6];omega,bR1 hx' hp' c N (by omega) (by omega),hx.Wv _ _ _,⟨z.port,z.pq,z.block,z.window,rfl,ah _,fun _=>rfl⟩,rfl,rfl,rfl,fun hcl=> ?_⟩
 ·intro w H ka cd hng
  have hH0:(0:Nat)≠H:=fun e=>absurd (e▸hng) (by decide);have hH1:(1:Nat)≠H:=fun e=>absurd (e▸hng) (by decide);rw[bh6];have q2:=ag3 ka cd 2 0 0 0 0 7 i pt h.port (XM c) hi (by rw[hx.next];exact po.nxb) (by omega) (by rw[z.port];exact hu.1) (by rw[z.port];exact hu.2) ez ⟨4,c%65536,[],[],[]⟩ rfl ek ⟨fun e=>absurd e (by show ¬(4=1);decide),fun e=>absurd e (by show ¬(4=6);decide),fun e=>absurd e (by show ¬(4=3);decide),fun _=>⟨rfl,rfl,rfl⟩,fun e=>absurd e (by show ¬(4=5);decide)⟩ (by show c%65536<65536;omega) (fun ee w'=>∃ao cp,ee=.returned (.tuple #[.slice ao N cp,.bool true])/\w'.ownsRow w.heap.size 9 1 (.slice ao N cp) N (Js.strs ((h.Wv (c:Int) (c:Int)).bd8 p.b pt c N))/\At w' H ((h.Wv (c:Int) (c:Int)).YP N)/\PU w w' H) (fun u sa sc ku cu hb hA had=> ?_)
  ·rw[hx.next,z.port]at q2
   exact q2
  have hkk:((c%65536:Nat):Int)=c:=by rw[hcm]
  have him:h.image.size=p.s.length:=by rw[hx.image,p.bH0]
  have q3:=bK2 ku cu hH0 hH1 pt (XM c) (by omega) (by rw[z.port];exact hu.1) (by rw[hx.next];exact po.nxb) p.b z.block (by omega) s0 c p.w N (c-s0) z.sent (by omega) z.window hw8.2 (by rw[him];omega) (((c%65536:Nat):Int)) ⟨#[]⟩ ⟨#[]⟩ (.slice sa 0 sc) (by
   rw[hkk]
   by_cases e:h.last=(c:Int)
   ·exact bo3 (hn e)
   exact bo1 e) (bo1 ⟨by omega,by omega,by rw[show s0+(c-s0)=c by omega]⟩) (by omega) (fun i hi'=>by
   rw[hkk,bC5 (by omega)]
   omega) (by omega) (fun i hi'=>by
   rw[him]
   exact(po.le _).1 (by omega)) (by
   rw[him]
   rcases Nat.lt_or_ge N p.w with e|e
   ·right
    have h1: ¬(p.L+1)*p.b<=p.s.length:=fun q=>Nat.not_le.2 (wy p.L) ((po.le (p.L+1)).2 q)
    have e2:c+N=p.L+1:=by omega
    rw[e2]
    omega
   exact bo1 (by omega))
  rw[hkk]at q3;rw[<-hkk]at q3 ⊢;refine q3.mono ?_;rintro ee w' ⟨ao,cp,rfl,o,k2,t2⟩;exact⟨_,_,rfl,ao,cp,rfl,Yb o hb.size,k2,⟨t2.os.trans hb.os,t2.tape.trans hb.tape,t2.output.trans hb.output,bo6 hb.size t2.size,fun j hj hn=>(t2.block j (bo9 hj hb.size) hn).trans (hb.block j hj)⟩⟩
 obtain⟨N',rfl⟩:∃N',N=N'+1:=⟨N-1,by omega⟩;obtain⟨l',e1,_⟩:=bj2 (pt:=pt) hx' hp' c N';exact⟨_,l',QQ _,e1⟩
theorem bI7{n:Nat}(h:n<4000):Tf.iM (Lib.itoa (n:Int))=true/\(Lib.itoa (n:Int)).length<=4/\af0 0 (Lib.itoa (n:Int))=(n:Int):=by
 have d:=bg9 n h;rw[d.itoa];exact⟨d.nam,d.len,d.num⟩
theorem bQ7{b n:Nat}(hb:b<4000)(hn:n<4000):Tf.UU (Xc [107,101,114,110,101,108] b n)=0:=by
 obtain⟨b1,b2,_⟩:=bI7 hb;obtain⟨n1,n2,_⟩:=bI7 hn;unfold Tf.UU;have ht:Tf.RS (Xc [107,101,114,110,101,108] b n)=true:=by
  unfold Tf.RS Xc;show(Tf.iM [107,101,114,110,101,108] && Tf.yK [(Gp,Lib.itoa (b:Int)),(I1,Lib.itoa (n:Int)),(VC,[48])])=true;unfold Tf.yK;have hap:∀X Y Z:List UInt8,Tf.uT (Tf.V4 [(Gp,X),(I1,Y),(VC,Z)])=true:=fun X Y Z=>by
   show Tf.uT [Gp,I1,VC]=true;decide+kernel
  simp only[List.all_cons,List.all_nil,Tf.Qn,b1,n1,hap,Bool.and_true];decide+kernel
 rw[bo4 (by rw[ht];decide),bo4 (by rintro ⟨e,_⟩;exact absurd e (by show ¬(1=3);decide))];have hl:(Tf.Mq (Xc [107,101,114,110,101,108] b n)).length<=1472:=by
  unfold Tf.Mq Xc;simp[Tf.TU,Tf.nW,Tf.Uu,Tf.Qy];omega
 rw[bo4 (by omega)]
theorem bP5{b n:Nat}(hb:b<4000)(hn:n<4000):Yj 0 (Xc [107,101,114,110,101,108] b n).fs Gp=b/\Yj 0 (Xc [107,101,114,110,101,108] b n).fs I1=n/\∀x ∈ (Xc [107,101,114,110,101,108] b n).fs,x.2.length<=1000:=by
 obtain⟨_,b2,b3⟩:=bI7 hb;obtain⟨_,n2,n3⟩:=bI7 hn;refine⟨?_,?_,?_⟩
 ·unfold Yj Xc Gp
  simp only[List.foldl_cons,List.foldl_nil,bA3];rw[bo4 (by decide),bo4 (by decide)];exact b3
 ·unfold Yj Xc I1
  simp only[List.foldl_cons,List.foldl_nil,bA3];rw[bo4 (by decide),bo4 (by decide)];exact n3
 intro x hx;unfold Xc at hx;simp only[List.mem_cons,List.not_mem_nil,or_false]at hx
 rcases hx with rfl|rfl|rfl
 ·show(Lib.itoa (b:Int)).length<=1000;omega
 ·show(Lib.itoa (n:Int)).length<=1000;omega
 show 1<=1000;decide
theorem bO6(po:p.Ok):Tf.UU (bf9 p)=0:=by
 have hlen:=po.len;have hbk:=po.bk;have hwn:=po.wn;have d1:=bg9 p.s.length hlen;have d2:=bg9 (min p.bk 300) (by omega);have d3:=bg9 p.wn (by omega);have l1:=d1.len;have l2:=d2.len;have l3:=d3.len;unfold bf9;rw[d1.dg,d2.dg,d3.dg];have ht:Tf.RS ⟨6,0,[],[],[(VC,d4 p.s.length),(Gp,d4 (min p.bk 300)),(I1,d4 p.wn)]⟩=true:=by
  unfold Tf.RS;show Tf.yK _=true;unfold Tf.yK;have hap:∀X Y Z:List UInt8,Tf.uT (Tf.V4 [(VC,X),(Gp,Y),(I1,Z)])=true:=fun X Y Z=>by
   show Tf.uT [VC,Gp,I1]=true;decide+kernel
  simp only[List.all_cons,List.all_nil,Tf.Qn,d1.nam,d2.nam,d3.nam,hap,Bool.and_true];decide+kernel
 unfold Tf.UU;rw[bo4 (by rw[ht];decide),bo4 (by rintro ⟨e,_⟩;exact absurd e (by show ¬(6=3);decide))];have hl:(Tf.Mq ⟨6,0,[],[],[(VC,d4 p.s.length),(Gp,d4 (min p.bk 300)),(I1,d4 p.wn)]⟩).length<=1472:=by
  unfold Tf.Mq;simp[Tf.TU,Tf.nW,Tf.Uu,VC,Gp,I1];omega
 rw[bo4 (by omega)]
theorem bG7(hx:Hx p h)(po:p.Ok)(hp:0<=h.port/\h.port<=3)(hw:h.whn<h.now)(hi:bQ i)(hpt:1024<=pt/\pt<=61023):
  ∃l h' id,YC NA h (be0 p i pt 69 (rqB p)) l h'/\bQ id/\(p.ob=true/\l=[bh8 p id (h.port+1) pt]∨p.ob=false/\l=[blP p id (h.port+1) pt 0])/\Hx p h'/\Hl p (h.port+1) 0 h'/\h'.whn=h.whn/\h'.now=h.now:=by
 have hbk:=po.bk;have hwn:=po.wn;have hlen:=po.len;have hrk:=bQ7 (b:=p.bk) (n:=p.wn) (by omega) (by omega);obtain⟨nb,nw,fz⟩:=bP5 (b:=p.bk) (n:=p.wn) (by omega) (by omega);have hz:(rqB p).size<=1472:=aV0 _ hrk;have him:h.image.size=p.s.length:=by rw[hx.image,p.bH0]
 have ep:h.asked.port=h.port+1:=by
  show(h.port+1)%65536=h.port+1;omega
 obtain⟨c3,hc3⟩:=ex_ (min p.bk 300);have key:∀l h',RdL h pt c3 p.wn p.ob l h'->l.length=1/\∃id,bQ id/\(p.ob=true/\l=[bh8 p id (h.port+1) pt]∨p.ob=false/\l=[blP p id (h.port+1) pt 0])/\Hx p h'/\Hl p (h.port+1) 0 h'/\h'.whn=h.whn/\h'.now=h.now:=by
  rintro l h' (⟨e1,e2,e3⟩|⟨e1,e2,e3⟩)
  ·have hb:p.b=c3:=by unfold Pm.b;rw[e1,hc3];rfl
   have hww:p.w=p.wn:=by unfold Pm.w;rw[e1];rfl
   refine⟨by rw[e2];rfl,(h.Wn c3 p.wn).Ww.id,QQ _,bo1 ⟨e1,?_⟩,?_,?_,?_,?_⟩
   ·rw[e2]
    unfold bh8 inP Host.frame bf9;rw[hx.next,ep,him,hc3]
   ·rw[e3];exact⟨hx.image,hx.gK,hx.next,hx.opts,QQ _⟩
   ·rw[e3];exact⟨ep,by omega,by rw[hb];rfl,by rw[hww];rfl,rfl,Int.le_of_lt hw,fun e=>absurd e (Int.ne_of_lt hw)⟩
   ·rw[e3];rfl
   rw[e3];rfl
  have hb:p.b=512:=by unfold Pm.b;rw[e1];rfl
  have hww:p.w=1:=by unfold Pm.w;rw[e1];rfl
  have hxa:Hx p (h.Wn 512 1):=⟨hx.image,hx.gK,hx.next,hx.opts,hx.id⟩;refine⟨by rw[e2,bh6],(h.Wn 512 1).Ww.id,QQ _,bo3 ⟨e1,?_⟩,?_,?_,?_,?_⟩
  ·rw[e2,<-hb]
   obtain⟨l',e4,e5⟩:=bj2 (pt:=pt) hxa ep 0 0;rw[e4,e5 rfl]
  ·rw[e3];exact hxa.YP 1
  ·rw[e3];exact⟨ep,by omega,by rw[hb];rfl,by rw[hww];rfl,rfl,Int.le_of_lt hw,fun e=>absurd e (Int.ne_of_lt hw)⟩
  ·rw[e3];rfl
  rw[e3];rfl
 obtain⟨l,h',hR⟩:∃l h',RdL h pt c3 p.wn p.ob l h':=by
  cases hob:p.ob with
  |true=>exact⟨_,_,bo1 ⟨rfl,rfl,rfl⟩⟩
  |false=>exact⟨_,_,bo3 ⟨rfl,rfl,rfl⟩⟩
 have hdet:∀l2 h2,RdL h pt c3 p.wn p.ob l2 h2->l2=l/\h2=h':=by
  rintro l2 h2 (⟨a1,a2,a3⟩|⟨a1,a2,a3⟩)<;>rcases hR with⟨b1,b2,b3⟩|⟨b1,b2,b3⟩
  ·exact⟨a2.trans b2.symm,a3.trans b3.symm⟩
  ·rw[a1]at b1;cases b1
  ·rw[a1]at b1;cases b1
  exact⟨a2.trans b2.symm,a3.trans b3.symm⟩
 obtain⟨hl1,id,hid,k1,k2,k3,k4,k5⟩:=key l h' hR;refine⟨l,h',id,?_,hid,k1,k2,k3,k4,k5⟩;intro w H ka cd hng;have hH0:(0:Nat)≠H:=fun e=>absurd (e▸hng) (by decide);have hH1:(1:Nat)≠H:=fun e=>absurd (e▸hng) (by decide);rw[hl1];have q2:=ag3 ka cd 2 0 0 0 0 7 i pt 69 (rqB p) hi (by rw[hx.next];exact po.nxb) (by omega) (by decide) (by decide) hz (Xc [107,101,114,110,101,108] p.bk p.wn) rfl hrk ⟨fun _=>⟨rfl,rfl⟩,fun e=>absurd e (by show ¬(1=6);decide),fun e=>absurd e (by show ¬(1=3);decide),fun e=>absurd e (by show ¬(1=4);decide),fun e=>absurd e (by show ¬(1=5);decide)⟩ (by show 0<65536;decide) (fun ee w'=>∃ao cp,ee=.returned (.tuple #[.slice ao 1 cp,.bool true])/\w'.ownsRow w.heap.size 9 1 (.slice ao 1 cp) 1 (Js.strs l)/\At w' H h'/\PU w w' H) (fun u sa sc ku cu hb hA had=> ?_)
 ·rw[hx.next]at q2
  exact q2
 have hlt:=gG ka;refine(bH7 ku cu hH0 hH1 pt (rqB p) (by omega) (by rw[hx.next];exact po.nxb) p.ob hx.opts (by rw[him];omega) (Xc [107,101,114,110,101,108] p.bk p.wn).fs sa sc (by show 3<=1000;decide) fz hA (fun ad e=>by have:=had ad e;omega) p.bk p.wn nb nw (by omega) hwn c3 hc3).mono ?_;rintro ee w' ⟨ao,cp,l2,h2,rfl,o,at2,t2,hr2⟩;obtain⟨e1,e2⟩:=hdet l2 h2 hr2;rw[e1]at o;rw[e2]at at2;exact⟨_,_,rfl,ao,cp,rfl,Yb o hb.size,at2,⟨t2.os.trans hb.os,t2.tape.trans hb.tape,t2.output.trans hb.output,bo6 hb.size t2.size,fun j hj hn=>(t2.block j (bo9 hj hb.size) hn).trans (hb.block j hj)⟩⟩
end Ho
namespace Ho
open Bs Js
variable{w0 w w':fV} {P:Nat→Prop} {Q B H G:Nat} {p:Pm} {K:Nat→Nat} {m m' m1 m2 mz:Mc} {t k g s0 c:Nat} {pt q qq x i:Int} {j:Option Nat} {h h':Host} {l c' cs:List ByteArray} {z:Lz} {lo:Int}
def ef(f:Int):Int:=if f<=0 then 0 else if f=1 then 3 else if f=2 then 8 else if f=3 then 17 else 34
def dl(b:Int):Int:=if b<=0 then 0 else if b=1 then 3 else if b=2 then 11 else 28
theorem bV3{f:Int}(h:0<=f/\f<=3):f=0/\(2:Int) ^ f.toNat=1∨f=1/\(2:Int) ^ f.toNat=2∨f=2/\(2:Int) ^ f.toNat=4∨f=3/\(2:Int) ^ f.toNat=8:=by
 rcases(show f=0∨f=1∨f=2∨f=3 by omega)with e|e|e|e<;>subst e<;>decide
theorem be4{f fu X:Int}(hf:0<=f/\f<=3)(h:FuB t f fu)(ht:(t:Int)<=X+ef f):fu<=X+ef (f+1):=by
 have h2:=h.2
 rcases bV3 hf with⟨rfl,e⟩|⟨rfl,e⟩|⟨rfl,e⟩|⟨rfl,e⟩<;>rw[e]at h2<;>(have a1:ef 0=0:=rfl)<;>(have a2:ef 1=3:=rfl)<;>(have a3:ef 2=8:=rfl)<;>(have a4:ef 3=17:=rfl)<;>(have a5:ef 4=34:=rfl)
 ·rw[a1]at ht;show fu<=X+ef 1;omega
 ·rw[a2]at ht;show fu<=X+ef 2;omega
 ·rw[a3]at ht;show fu<=X+ef 3;omega
 rw[a4]at ht;show fu<=X+ef 4;omega
theorem bi1{f fu:Int}(hf:0<=f/\f<=3)(h:FuB t f fu):(t:Int)<fu/\(1<=f->(t:Int)+3<=fu):=by
 have h2:=h.1
 rcases bV3 hf with⟨rfl,e⟩|⟨rfl,e⟩|⟨rfl,e⟩|⟨rfl,e⟩<;>rw[e]at h2<;>constructor<;>omega
theorem bJ5{f f':Int}(h:f<=f'):ef f<=ef f':=by
 unfold ef;repeat' split
 all_goals omega
theorem bf2{f f':Int}(h:f<=f'):dl f<=dl f':=by
 unfold dl;repeat' split
 all_goals omega
theorem bJ3(b:Int):0<=dl b:=by
 unfold dl;repeat' split
 all_goals omega
theorem bF1{f b:Int}(hf:f<=b+1)(hb:0<=b/\b<=2):ef f+dl b<=dl (b+1):=by
 have h1:=bJ5 hf
 rcases(show b=0∨b=1∨b=2 by omega)with e|e|e<;>subst e
 ·have:ef (0+1)=3:=rfl
  have:dl (0+1)=3:=rfl;have:dl 0=0:=rfl;omega
 ·have:ef (1+1)=8:=rfl
  have:dl (1+1)=11:=rfl;have:dl 1=3:=rfl;omega
 have:ef (2+1)=17:=rfl;have:dl (2+1)=28:=rfl;have:dl 2=11:=rfl;omega
theorem bS0{b:Int}(hb:1<=b/\b<=2):dl b+2<=dl (b+1):=by
 rcases(show b=1∨b=2 by omega)with e|e<;>subst e<;>decide
theorem bF4{b:Int}(hb:b<=2):dl (b+1)<=28:=by
 have h1:dl (b+1)<=dl 3:=bf2 (by omega);have h2:dl 3=28:=rfl;omega
def tm(j:Option Nat):Int:=match j with
 |none=>37
 |some k=>65+28*(k:Int)
def l1(m:Mc):Lz:=(m.st,m.phase,((m.ql.length:Nat):Int),1)
def Qx(m:Mc)(z:Lz)(lo:Int):Int:=if l1 m=z then lo else 0
theorem bP1(e:vx m'=vx m):l1 m'=l1 m:=by
 unfold l1;rw[show m'.st=m.st from(by5 Mc.st e:),show m'.phase=m.phase from(by5 Mc.phase e:),show m'.ql=m.ql from(by5 Mc.ql e:)]
theorem bi0(e:vx m'=vx m):Qx m' z lo=Qx m z lo:=by unfold Qx;rw[bP1 e]
theorem be5{y:Nb}(e:m.cd=ak y):lk m=l1 m:=by
 unfold lk l1 Mc.cached;rw[e];rfl
theorem be1{y:Nb}(e:m.cd=ak y):bse m z lo=Qx m z lo:=by unfold bse Qx;rw[be5 e]
theorem ao8(x:Int):Qx m (l1 m) x=x:=bp0 rfl
theorem bd7(hl:0<=lo/\lo<=2):0<=Qx m z lo/\Qx m z lo<=2:=by unfold Qx;split<;>omega
theorem bg2(hl:0<=lo/\lo<=2):0<=bse m z lo/\bse m z lo<=2:=by unfold bse;split<;>omega
theorem bQ4(e:vx m'=vx m)(hc:m'.cd=m.cd):lk m'=lk m:=by
 unfold lk Mc.cached;rw[show m'.st=m.st from(by5 Mc.st e:),show m'.phase=m.phase from(by5 Mc.phase e:),show m'.ql=m.ql from(by5 Mc.ql e:),hc]
theorem bL8(e:vx m'=vx m)(hc:m'.cd=m.cd):bse m' z lo=bse m z lo:=by unfold bse;rw[bQ4 e hc]
theorem be8(x:Int):bse m (lk m) x=x:=bp0 rfl
def AkL(p:Pm)(pt q:Int)(hi:Nat):Nat->List ByteArray->Prop
 |_,[]=>True
 |lo,f::r=>∃(c:Nat) (i:Int),lo<=c/\c<=hi/\bQ i/\f=be0 p i pt q (XM c)/\AkL p pt q hi c r
theorem AkL.mono{hi hi' lo lo':Nat}(a:AkL p pt q hi lo cs)(h1:hi<=hi')(h2:lo'<=lo):AkL p pt q hi' lo' cs:=by
 induction cs generalizing lo lo' with
 |nil=>trivial
 |cons f r ih=>
  obtain⟨c,i,a1,a2,a3,a4,a5⟩:=a;exact⟨c,i,by omega,by omega,a3,a4,ih a5 (bn7 _)⟩
theorem AkL.snoc{hi lo:Nat}(a:AkL p pt q hi lo cs)(h1:lo<=hi){i:Int}(hi2:bQ i):AkL p pt q hi lo (cs++ [be0 p i pt q (XM hi)]):=by
 induction cs generalizing lo with
 |nil=>exact⟨hi,i,h1,bn7 _,hi2,rfl,trivial⟩
 |cons f r ih=>
  obtain⟨c,i',a1,a2,a3,a4,a5⟩:=a;exact⟨c,i',a1,a2,a3,a4,ih a5 a2⟩
theorem AkL.gq{hi k lo:Nat}{r g g':List ByteArray}(a:AkL p pt q hi lo (r++g))(h1:lo<=k)(h2:hi<=k)(ga:GqA p pt q k g g'):AkL p pt q k lo (r++g')/\(r++g').length<=(r++g).length+1:=by
 rcases ga with e|⟨i,hi,e⟩
 ·rw[e]
  exact⟨a.mono h2 (bn7 _),by omega⟩
 rw[e,<-bq1];refine⟨(a.mono h2 (bn7 _)).snoc h1 hi,?_⟩;simp only[bn6,bn5,bp6];omega
def rs(h:Host):Int:=if h.whn=h.now then h.last+1 else 0
structure Hz (p:Pm) (h:Host):Prop where
 hx:Hx p h
 port:h.port=0
 whn:h.whn=0
structure Fq (K:Nat->Nat) (p:Pm) (t:Nat) (pt:Int) (j:Option Nat) (q:Int) (m:Mc) (h:Host) (z:Lz) (lo:Int):Prop where
 bn:Bn K p t pt j q m
 f1:1<=m.fs
 u1:(t:Int)<m.fu
 u2:m.fu<=tm j+ef m.fs+dl (Qx m z lo)
 hx:Hx p h
theorem Fq.same(f:Fq K p t pt j q m h z lo)(e:vx m'=vx m)(o:m'.Ok):Fq K p t pt j q m' h z lo:=
 ⟨f.bn.same e o,by rw[show m'.fs=m.fs from(by5 Mc.fs e:)];exact f.f1,by rw[show m'.fu=m.fu from(by5 Mc.fu e:)];exact f.u1,by rw[show m'.fu=m.fu from(by5 Mc.fu e:),show m'.fs=m.fs from(by5 Mc.fs e:),bi0 e];exact f.u2,f.hx⟩
def Hj(p:Pm)(j:Option Nat)(q fs:Int)(pd:Nat)(h:Host):Prop:=match j with
 |none=>0<=h.port/\h.port+pd<=fs/\h.whn=0
 |some k=>∃s0:Nat,Hl p q s0 h/\s0<=k/\k<=s0+p.w
def bx(x:Int):Int:=if x=1 then 1 else 18
def Sx(x:Int)(m:Mc):Prop:=x=1∨x=2/\m.iB=167772215/\m.iO=167772161
inductive Jc (K:Nat->Nat) (p:Pm) (k t:Nat) (c:List ByteArray) (m:Mc) (h:Host) (z:Lz) (lo:Int):Prop where
 |A_ (x:Int):Sx x m->Sl K p t x m->1<=m.ws->m.ws<=bse m z lo+1->(t:Int)<m.wu->m.wu<=bx x+ef m.ws->Hz p h->c=[]->Jc K p k t c m h z lo
 |said (x i:Int):Sx x m->Sl K p t x m->1<=m.ws->m.ws<=bse m z lo+2->(t:Int)<m.wu->m.wu<=bx x+ef m.ws->Hz p h->(t:Int)<=bx x+17->bQ i->c=[be6 x i m.gF]->(x=1->3<=k)->2<=k->Jc K p k t c m h z lo
 |pro (g:Nat):Pb K p t g m->g<=35->t<g+2->Hz p h->c=[]∨c=[Yg]/\1<=k->Jc K p k t c m h z lo
 |quiet (pt:Int) (j:Option Nat) (q:Int):Fq K p t pt j q m h z lo->Hj p j q m.fs 0 h->Ce m->m.fs<=Qx m z lo+1->c=[]->Jc K p k t c m h z lo
 |wait (pt:Int) (j:Option Nat) (q a ua:Int):Fq K p t pt j q m h z lo->Hj p j q m.fs 1 h->Pe p a ua m->1<=a->a<=Qx m z lo->(t:Int)<ua->ua<=(t:Int)+2->ua<=tm j+dl (Qx m z lo)+2->m.fs<=Qx m z lo+1->(m.fs<=Qx m z lo∨ua+1<=m.fu)->c=[]->Jc K p k t c m h z lo
 |ask (pt:Int) (j:Option Nat) (q a:Int):Fq K p t pt j q m h z lo->Hj p j q m.fs 1 h->Pe p a ((t+2:Nat):Int) m->1<=a->a<=Qx m z lo+1->m.fs<=Qx m z lo+2->(m.fs<=Qx m z lo+1∨(t:Int)+3<=m.fu)->(t:Int)<=tm j+dl (Qx m z lo+1)->h.whn<h.now->c=[az1]->9001<=k->Jc K p k t c m h z lo
 |go (pt:Int) (j:Option Nat) (q i:Int):Fq K p t pt j q m h z lo->Hj p j q m.fs 1 h->Kw m->m.fs<=Qx m z lo+2->(t:Int)<=tm j+dl (Qx m z lo+1)->h.whn<h.now->bQ i->c=[tP p i m]->9000<=k->Jc K p k t c m h z lo
 |yQ (pt:Int) (M s0:Nat) (q:Int):Fq K p t pt (some M) q m h z lo->Hl p q s0 h->s0<=M->M<=s0+p.w->Kw m->m.fs<=Qx m z lo+1->(t:Int)<=tm (some M)+dl (Qx m z lo)->AkL p pt q M s0 c->(c.length:Int)+17*(503-rs h)<=k->Jc K p k t c m h z lo
 |fin (pt:Int) (s0:Nat) (q:Int):Dq p m->Hx p h->Hl p q s0 h->s0<=p.L+1->p.L+1<=s0+p.w->1024<=pt/\pt<=61023->AkL p pt q (p.L+1) s0 c->(c.length:Int)+17*(503-rs h)<=k->Jc K p k t c m h z lo
theorem Pe.same{a ua:Int}(k:Pe p a ua m)(e:vx m'=vx m)(hc:m'.cd=m.cd):Pe p a ua m':=k.cd hc (by5 Mc.sF e:) (by5 Mc.sT e:) (by5 Mc.sL e:)
theorem Jc.same{c:List ByteArray}(J:Jc K p k t c m h z lo)(e:vx m'=vx m)(o:m'.Ok)(hc:m'.cd=m.cd):Jc K p k t c m' h z lo:=by
 have e1:m'.ws=m.ws:=(by5 Mc.ws e:);have e2:m'.wu=m.wu:=(by5 Mc.wu e:);have e3:m'.fs=m.fs:=(by5 Mc.fs e:);have e4:m'.fu=m.fu:=(by5 Mc.fu e:);have e5:m'.gF=m.gF:=(by5 Mc.gF e:);have e6:m'.iB=m.iB:=(by5 Mc.iB e:);have e7:m'.iO=m.iO:=(by5 Mc.iO e:);have b1:Qx m' z lo=Qx m z lo:=bi0 e;have b2:bse m' z lo=bse m z lo:=bL8 e hc
 cases J with
 |A_ x a1 a2 a3 a4 a5 a6 a7 a8=>exact .A_ x (by unfold Sx;rw[e6,e7];exact a1) (a2.same e o hc) (by rw[e1];exact a3) (by rw[e1,b2];exact a4) (by rw[e2];exact a5) (by rw[e1,e2];exact a6) a7 a8
 |said x i a1 a2 a3 a4 a5 a6 a7 a8 a9 a10 a11 a12=>exact .said x i (by unfold Sx;rw[e6,e7];exact a1) (a2.same e o hc) (by rw[e1];exact a3) (by rw[e1,b2];exact a4) (by rw[e2];exact a5) (by rw[e1,e2];exact a6) a7 a8 a9 (by rw[e5];exact a10) a11 a12
 |pro g a1 a2 a3 a4 a5=>exact .pro g (a1.same e o hc) a2 a3 a4 a5
 |quiet pt j q a1 a2 a3 a4 a5=>exact .quiet pt j q (a1.same e o) (by rw[e3];exact a2) (a3.cd hc) (by rw[e3,b1];exact a4) a5
 |wait pt j q a ua a1 a2 a3 a4 a5 a6 a7 a8 a9 a10 a11=>exact .wait pt j q a ua (a1.same e o) (by rw[e3];exact a2) (a3.same e hc) a4 (by rw[b1];exact a5) a6 a7 (by rw[b1];exact a8) (by rw[e3,b1];exact a9) (by rw[e3,e4,b1];exact a10) a11
 |ask pt j q a a1 a2 a3 a4 a5 a6 a7 a8 a9 a10 a11=>exact .ask pt j q a (a1.same e o) (by rw[e3];exact a2) (a3.same e hc) a4 (by rw[b1];exact a5) (by rw[e3,b1];exact a6) (by rw[e3,e4,b1];exact a7) (by rw[b1];exact a8) a9 a10 a11
 |go pt j q i a1 a2 a3 a4 a5 a6 a7 a8 a9=>exact .go pt j q i (a1.same e o) (by rw[e3];exact a2) (a3.cd hc) (by rw[e3,b1];exact a4) (by rw[b1];exact a5) a6 a7 (by unfold tP;rw[show m'.sF=m.sF from(by5 Mc.sF e:),show m'.sT=m.sT from(by5 Mc.sT e:),show m'.sL=m.sL from(by5 Mc.sL e:)];exact a8) a9
 |yQ pt M s0 q a1 a2 a3 a4 a5 a6 a7 a8 a9=>exact .yQ pt M s0 q (a1.same e o) a2 a3 a4 (a5.cd hc) (by rw[e3,b1];exact a6) (by rw[b1];exact a7) a8 a9
 |fin pt s0 q a1 a2 a3 a4 a5 a6 a7 a8=>exact .fin pt s0 q (a1.same e o) a2 a3 a4 a5 a6 a7 a8
inductive Ac (K:Nat->Nat) (p:Pm) (k t:Nat) (c:List ByteArray) (m:Mc) (h:Host) (z:Lz) (lo:Int):List ByteArray->Prop where
 |nil:Jc K p k t c m h z lo->Ac K p k t c m h z lo []
 |off (h0:Host):Sl K p t 1 m->1<=m.ws->m.ws<=bse m z lo+2->(t:Int)<m.wu->m.wu<=bx 1+ef m.ws->Hz p h->(t:Int)<=18->Hx p h0->c=[]->2<=k->Ac K p k t c m h z lo [ad8 h0 m.gF 2]
 |ack (h0:Host):Sl K p t 2 m->m.iB=167772215->m.iO=167772161->1<=m.ws->m.ws<=bse m z lo+2->(t:Int)<m.wu->m.wu<=bx 2+ef m.ws->Hz p h->(t:Int)<=35->Hx p h0->c=[]->1<=k->Ac K p k t c m h z lo [ad8 h0 m.gF 5]
 |tell (pt:Int) (j:Option Nat) (q a:Int):Fq K p t pt j q m h z lo->Hj p j q m.fs 1 h->Pe p a ((t+2:Nat):Int) m->1<=a->a<=Qx m z lo+1->m.fs<=Qx m z lo+2->(m.fs<=Qx m z lo+1∨(t:Int)+3<=m.fu)->(t:Int)<=tm j+dl (Qx m z lo+1)->h.whn<h.now->c=[]->9000<=k->Ac K p k t c m h z lo [aB9]
 |bT1 (pt q qq id:Int):p.ob=true->Fq K p t pt none q m h z lo->Hl p qq 0 h->h.port<=m.fs->h.whn<h.now->h.whn=0->Kw m->m.fs<=Qx m z lo+2->(t:Int)<=tm none+dl (Qx m z lo+1)->c=[]->bQ id->8999<=k->Ac K p k t c m h z lo [bh8 p id qq pt]
 |first (pt q qq id:Int):p.ob=false->Fq K p t pt none q m h z lo->Hl p qq 0 h->h.port<=m.fs->h.whn<h.now->h.whn=0->Kw m->m.fs<=Qx m z lo+2->(t:Int)<=tm none+dl (Qx m z lo+1)->c=[]->bQ id->8999<=k->Ac K p k t c m h z lo [blP p id qq pt 0]
 |hot (pt:Int) (M:Nat) (q id:Int) (l:List ByteArray):Fq K p t pt (some M) q m h z lo->Hl p q M h->Kw m->m.fs<=Qx m z lo+2->(t:Int)<=tm (some M)+dl (Qx m z lo+1)->bQ id->c=[]->BkL p q pt M l->l.length<=8->2*(l.length:Int)+2+17*(503-rs h)<=k->Ac K p k t c m h z lo (blP p id q pt M::l)
 |blk (pt:Int) (M s0:Nat) (q:Int) (l:List ByteArray):Fq K p t pt (some M) q m h z lo->Hl p q s0 h->s0<=M->M<=s0+p.w->Kw m->m.fs<=Qx m z lo+1->(t:Int)<=tm (some M)+dl (Qx m z lo)->AkL p pt q M s0 c->BkL p q pt s0 l->(c.length:Int)+2*(l.length:Int)+17*(503-rs h)<=k->Ac K p k t c m h z lo l
 |fin (pt:Int) (s0:Nat) (q:Int) (l:List ByteArray):Dq p m->Hx p h->Hl p q s0 h->s0<=p.L+1->p.L+1<=s0+p.w->1024<=pt/\pt<=61023->AkL p pt q (p.L+1) s0 c->BkL p q pt s0 l->(c.length:Int)+2*(l.length:Int)+17*(503-rs h)<=k->Ac K p k t c m h z lo l
theorem Ac.all{c:List ByteArray}(A:Ac K p k t c m h z lo []):Jc K p k t c m h z lo:=by
 generalize hl:([]:List ByteArray)=l at A
 cases A with
 |nil j=>exact j
 |off h0=>cases hl
 |ack h0=>cases hl
 |tell=>cases hl
 |bT1=>cases hl
 |first=>cases hl
 |hot=>cases hl
 |blk pt M s0 q l a1 a2 a3 a4 a5 a6 a7 a8 a9 a10=>exact .yQ pt M s0 q a1 a2 a3 a4 a5 a6 a7 a8 (by subst hl;simpa using a10)
 |fin pt s0 q l a1 a2 a3 a4 a5 a6 a7 a8 a9=>exact .fin pt s0 q a1 a2 a3 a4 a5 a6 a7 (by subst hl;simpa using a9)
def JB(K:Nat->Nat)(p:Pm)(k t:Nat)(q:List ByteArray)(m:Mc)(h:Host)(z:Lz)(lo:Int):Prop:=(0<=lo/\lo<=2)/\m.cq=[]/\m.Ok/\m.rx=16/\h.now=((t+1:Nat):Int)/\t<19990/\Jc K p k (t+1) (q++m.gq) m h z lo
def AB(K:Nat->Nat)(p:Pm)(k t:Nat)(r:List ByteArray)(m:Mc)(h:Host)(z:Lz)(lo:Int)(l:List ByteArray):Prop:=(0<=lo/\lo<=2)/\m.cq=[]/\m.Ok/\m.rx=16/\h.now=((t+1:Nat):Int)/\t<19990/\Ac K p k (t+1) (r++m.gq) m h z lo l
def IB(K:Nat->Nat)(p:Pm)(t:Nat)(m:Mc)(h:Host)(z:Lz)(lo:Int):Prop:=(0<=lo/\lo<=2)/\m.cq=[]/\m.gq=[]/\t<19990/\h.now=(t:Int)/\(t=0/\Sl K p 0 0 m/\Hz p h∨1<=t/\Jc K p 0 t [] m h z lo)
theorem Fb.tm(r:Fb p pt j q m)(po:p.Ok):tm j<=14037:=by
 cases j with
 |none=>show(37:Int)<=14037;decide
 |some k=>
  have h1:=Lo.le r;have h2:=po.L5;show 65+28*(k:Int)<=14037;omega
theorem Fb.np(r:Fb p pt j q m):m.phase≠3/\m.phase≠4:=by
 rcases r.ph with e|e<;>rw[e]<;>decide
theorem bJ1(z:Hl p q s0 h):rs h<=(s0:Int)+1:=by
 unfold rs
 split
 ·rename_i e
  rw[z.last e];exact ah _
 omega
theorem Fq.time(f:Fq K p t pt j q m h z lo)(po:p.Ok)(hl:0<=lo/\lo<=2)(h1:m.fs<=Qx m z lo+1):t<19000:=by
 have a1:=f.u1;have a2:=f.u2;have a3:=bF1 h1 (bd7 hl);have a4:=bF4 (bd7 (m:=m) (z:=z) hl).2;have a5:=f.bn.fe.tm po;omega
theorem Jc.rest{c:List ByteArray}(po:p.Ok)(hl:0<=lo/\lo<=2)(J:Jc K p k t c m h z lo)(hc:c=[]):m.phase=3∨m.phase≠3/\m.phase≠4/\t<19000/\Jc K p 0 t [] m h z lo:=by
 cases J with
 |A_ x a1 a2 a3 a4 a5 a6 a7 a8=>
  refine bo3 ⟨by rw[a2.ph];decide,by rw[a2.ph];decide,?_,.A_ x a1 a2 a3 a4 a5 a6 a7 rfl⟩;have h1:ef m.ws<=34:=by
   unfold ef;repeat' split
   all_goals omega
  have h2:bx x<=18:=by unfold bx;split<;>omega
  omega
 |said x i a1 a2 a3 a4 a5 a6 a7 a8 a9 a10=>rw[hc]at a10;cases a10
 |pro g a1 a2 a3 a4 a5=>exact bo3 ⟨by rw[a1.sl.ph];decide,by rw[a1.sl.ph];decide,by omega,.pro g a1 a2 a3 a4 (bo1 rfl)⟩
 |quiet pt j q a1 a2 a3 a4 a5=>exact bo3 ⟨a1.bn.fe.np.1,a1.bn.fe.np.2,a1.time po hl a4,.quiet pt j q a1 a2 a3 a4 rfl⟩
 |wait pt j q a ua a1 a2 a3 a4 a5 a6 a7 a8 a9 a10 a11=>exact bo3 ⟨a1.bn.fe.np.1,a1.bn.fe.np.2,a1.time po hl a9,.wait pt j q a ua a1 a2 a3 a4 a5 a6 a7 a8 a9 a10 rfl⟩
 |ask pt j q a a1 a2 a3 a4 a5 a6 a7 a8 a9 a10 a11=>rw[hc]at a10;cases a10
 |go pt j q i a1 a2 a3 a4 a5 a6 a7 a8 a9=>rw[hc]at a8;cases a8
 |yQ pt M s0 q a1 a2 a3 a4 a5 a6 a7 a8 a9=>exact bo3 ⟨a1.bn.fe.np.1,a1.bn.fe.np.2,a1.time po hl a6,.quiet pt (some M) q a1 ⟨s0,a2,a3,a4⟩ (bo3 a5) a6 rfl⟩
 |fin pt s0 q a1 a2 a3 a4 a5 a6 a7 a8=>exact bo1 a1.ph
end Ho
namespace Ho
open Bs Js
variable{w0 w w':fV} {P:Nat→Prop} {Q B H G:Nat} {p:Pm} {K:Nat→Nat} {m m' m1 m2 mz:Mc} {t k g s0:Nat} {pt q qq x i:Int} {j:Option Nat} {h h':Host} {l c cs:List ByteArray} {z:Lz} {lo:Int}
theorem bG1(m:Mc):vx m.taken=vx m:=rfl
theorem bf8(o:m.Ok):m.taken.Ok:=⟨o.1,o.2,o.3,o.4,o.5,o.6,o.7,o.8,o.9,o.10,o.11,o.12,o.13,o.14,o.15,o.16⟩
theorem bR5(s:Sl K p t x m):lk m=(x,0,0,0):=by
 unfold lk Mc.cached;rw[s.st,s.ph,s.img,s.cd];rfl
theorem bT8{t':Nat}(a:Bn K p t pt j q m)(b:Bn K p t' pt j q mz):l1 mz=l1 m:=by
 unfold l1;rw[a.bo.st,b.bo.st]
 cases j with
 |none=>
  have a1:Re p pt m:=a.fe;have b1:Re p pt mz:=b.fe;rw[a1.ph,b1.ph,a1.img,b1.img]
 |some k=>
  have a1:Lo p pt k q m:=a.fe;have b1:Lo p pt k q mz:=b.fe;rw[a1.ph,b1.ph,a1.img,b1.img]
theorem bN6{t':Nat}(a:Bn K p t pt j q m)(b:Bn K p t' pt j q mz):Qx mz z lo=Qx m z lo:=by unfold Qx;rw[bT8 a b]
theorem bF7{a ua:Int}(c:Ce m)(k:Pe p a ua m)(ha:a≠0):False:=by
 obtain⟨y,i,y1,y2,_⟩:=k
 rcases c with c|⟨y',c,c2,_⟩
 ·rw[c]at y1;cases y1
 exact ha (y2.symm.trans ((X6 (y1.symm.trans c)).trans c2.1))
theorem bJ0{a ua a' ua':Int}(k:Pe p a ua m)(k':Pe p a' ua' m):a'=a/\ua'=ua:=by
 obtain⟨x,i,x1,x2,x3,_⟩:=k;obtain⟨y,i',y1,y2,y3,_⟩:=k';have hd:=y1.symm.trans x1;refine⟨by rw[<-y2,<-x2];exact X6 hd,?_⟩;have hh:=by5 (fun D:DataW Unit=>D.atKey (.int .u32 167772161) bC.d) hd;have hd2:y.d=x.d:=hh;unfold Nb.d at hd2;injection hd2 with hd2
 simp only[rO,yf,Cm]at hd2;rw[<-y3,<-x3];exact hd2.2.2.2.2.2.2.2.1.2
theorem Hx.clock(c:Hx p h)(x:Int):Hx p {h with now:=x}:=⟨c.image,c.gK,c.next,c.opts,c.id⟩
theorem Hz.clock(c:Hz p h)(x:Int):Hz p {h with now:=x}:=⟨c.hx.clock x,c.port,c.whn⟩
theorem Hl.clock{T:Int}(c:Hl p q s0 h)(hT:h.now<T):Hl p q s0 {h with now:=T}:=⟨c.port,c.pq,c.block,c.window,c.sent,by show h.whn<=T;have:=c.whn;omega,fun e=>absurd (show h.whn=T from e) (by have:=c.whn;omega)⟩
theorem Hj.clock{T fs fs':Int}{pd:Nat}(c:Hj p j q fs 0 h)(hT:h.now<T)(hf:fs+pd<=fs'):Hj p j q fs' pd {h with now:=T}:=by
 cases j with
 |none=>
  obtain⟨c1,c2,c3⟩:=c;refine⟨c1,?_,c3⟩;show h.port+(pd:Int)<=fs';have c2':h.port+((0:Nat):Int)<=fs:=c2;omega
 |some k=>
  obtain⟨s0,c1,c2,c3⟩:=c;exact⟨s0,c1.clock hT,c2,c3⟩
theorem Hj.clock1{T fs fs':Int}(c:Hj p j q fs 1 h)(hT:h.now<T)(hf:fs<=fs'):Hj p j q fs' 1 {h with now:=T}:=by
 cases j with
 |none=>
  obtain⟨c1,c2,c3⟩:=c;refine⟨c1,?_,c3⟩;show h.port+((1:Nat):Int)<=fs';have c2':h.port+((1:Nat):Int)<=fs:=c2;omega
 |some k=>
  obtain⟨s0,c1,c2,c3⟩:=c;exact⟨s0,c1.clock hT,c2,c3⟩
theorem Hj.whn{fs:Int}{pd:Nat}(c:Hj p j q fs pd h)(h0:0<=h.now):h.whn<=h.now:=by
 cases j with
 |none=>
  obtain⟨c1,c2,c3⟩:=c;rw[c3];exact h0
 |some k=>
  obtain⟨s0,c1,c2,c3⟩:=c;exact c1.whn
theorem bj5(hl:0<=lo/\lo<=2)(hq:mz.cq=[])(o:mz.Ok)(hr:mz.rx=16)(hn:h.now=((t+1:Nat):Int))(ht:t<19990)(J:Jc K p k (t+1) mz.gq mz h z lo):JB K p k t mz.gq mz.taken h z lo:=
 ⟨hl,hq,bf8 o,hr,hn,ht,by rw[Xi,br8];exact J.same (bG1 mz) (bf8 o) rfl⟩
theorem bK6(po:p.Ok)(m:Mc)(h:Host)(z:Lz)(lo:Int)(I:IB K p t m h z lo):bi5 (Tk K) m (7*(t:Int)) (fun mz=>JB K p 10000 t mz.gq mz.taken {h with now:=(t:Int)+1} z lo):=by
 obtain⟨hl,hq,hg,ht,hn,I⟩:=I;have hd:0<=7*(t:Int)/\7*(t:Int)<=4294967295:=by omega
 have eT:((t+1:Nat):Int)=(t:Int)+1:=by omega
 have hT:h.now<(t:Int)+1:=by omega
 have hT':h.now<((t+1:Nat):Int):=by omega
 have hl2:=bd7 (m:=m) (z:=z) hl;rw[<-eT]
 rcases I with⟨rfl,s,hz⟩|⟨h1,J⟩
 ·refine bI3 s hg (by omega) _ hd _ (fun mz a1 a2 a3 a4 a5=> ?_)
  obtain⟨i,hi,a5⟩:=a5;have b1:=(bi1 (by decide) a4).1;have b2:=be4 (X:=1) (f:=0) (by decide) a4 (by show((0+1:Nat):Int)<=1+0;decide);have hbse:=bg2 (m:=mz) (z:=z) hl;refine bj5 hl (a2.trans hq) a1.cb.ok a1.cb.rx rfl ht ?_;exact .said 1 i (bo1 rfl) a1 (by rw[a3];decide) (by rw[a3];omega) b1 (by rw[a3];exact b2) (hz.clock _) (by show((0+1:Nat):Int)<=1+17;decide) hi a5 (fun _=>by decide) (by decide)
 cases J with
 |A_ x a1 a2 a3 a4 a5 a6 a7 a8=>
  have hbse:=bg2 (m:=m) (z:=z) hl;have hw:1<=m.ws/\m.ws<=3:=by omega
  have he:=bJ5 hw.2;have he3:ef 3=17:=rfl;refine bJ9 a1 a2 hg (by omega) hw _ hd _ (fun mz b1 b2 b3 b4 b5=>bj5 hl (b2.trans hq) b1.cb.ok b1.cb.rx rfl ht ?_);have eb:bse mz z lo=bse m z lo:=by unfold bse;rw[bR5 b1,bR5 a2]
  have hSx:Sx x mz:=by unfold Sx;rw[b3,b4];exact a1
  rcases b5 with⟨c1,c2,c3,c4⟩|⟨c1,c2,c3,i,c4,c5⟩
  ·exact .A_ x hSx b1 (by rw[c2];exact a3) (by rw[c2,eb];exact a4) (by rw[c3];exact c1) (by rw[c2,c3];exact a6) (a7.clock _) c4
  have d1:=(bi1 ⟨by omega,hw.2⟩ c3).1;have d2:=be4 (X:=bx x) ⟨by omega,hw.2⟩ c3 (by omega);exact .said x i hSx b1 (by rw[c2];omega) (by rw[c2,eb];omega) d1 (by rw[c2];exact d2) (a7.clock _) (by omega) c4 c5 (fun _=>by decide) (by decide)
 |said x i a1 a2 a3 a4 a5 a6 a7 a8 a9 a10=>cases a10
 |pro g a1 a2 a3 a4 a5=>
  by_cases e:t+1<g+2
  ·exact bL2 a1 hg e (by omega) (by omega) _ hd _ (fun mz b1 b2 b3=>bj5 hl (b2.trans hq) b1.sl.cb.ok b1.sl.cb.rx rfl ht (.pro g b1 a2 e (a4.clock _) (bo1 b3)))
  refine bF2 po a1 hg (by omega) (by omega) _ hd _ (fun mz b1 b2 b3 b4 b5 b6=>bj5 hl (b2.trans hq) b1.bo.cb.ok b1.bo.cb.rx rfl ht ?_);have hb:=bd7 (m:=mz) (z:=z) hl;have d1:=(bi1 (by decide) b4).1;have d2:=be4 (X:=37) (f:=0) (by decide) b4 (by show((t+1:Nat):Int)<=37+0;omega);have d3:=bJ3 (Qx mz z lo);have d4:=bJ3 (Qx mz z lo+1);have e1:tm none=37:=rfl;refine .ask _ none 0 1 ⟨b1,by rw[b3];decide,d1,?_,a4.hx.clock _⟩ ⟨?_,?_,a4.whn⟩ b5 (by decide) (by omega) (by rw[b3];omega) (bo1 (by rw[b3];omega)) (by rw[e1];omega) ?_ b6 (by decide)
  ·rw[b3,e1]
   have d2':mz.fu<=37+ef 1:=d2;omega
  ·show 0<=h.port
   rw[a4.port];decide
  ·show h.port+((1:Nat):Int)<=mz.fs
   rw[a4.port,b3];decide
  show h.whn<((t+1:Nat):Int);rw[a4.whn];omega
 |quiet pt j q a1 a2 a3 a4 a5=>
  have hf3:m.fs<=3:=by omega
  have hfs:=a1.f1;have hw:=a2.whn (by omega);refine bI6 po a1.bn hg (bo1 a3) hf3 (by omega) _ hd _ (fun mz b=> ?_);obtain⟨b1,b2,b3⟩:=b;refine bj5 hl (b2.trans hq) b1.bo.cb.ok b1.bo.cb.rx rfl ht ?_;have eb:Qx mz z lo=Qx m z lo:=bN6 a1.bn b1;have u1:=a1.u1;have u2:=a1.u2;have n1:=bF1 a4 hl2
  rcases b3 with⟨c1,c2,c3,c4⟩|⟨c1,c2,c3,c4⟩
  ·rcases c4 with⟨_,c4,c5⟩|⟨a,ua,ha,c4,_⟩
   ·exact .quiet pt j q ⟨b1,by rw[c2];exact hfs,by rw[c3];exact c1,by rw[c2,c3,eb];exact u2,a1.hx.clock _⟩ (a2.clock hT' (by rw[c2];simp)) c4 (by rw[c2,eb];exact a4) c5
   exact(bF7 a3 c4 ha).elim
  have d1:=bi1 ⟨by omega,hf3⟩ c3;have d2:=be4 (X:=tm j+dl (Qx m z lo)) ⟨by omega,hf3⟩ c3 (by omega);have F:Fq K p (t+1) pt j q mz {h with now:=((t+1:Nat):Int)} z lo:=⟨b1,by rw[c2];omega,d1.1,by rw[c2,eb];omega,a1.hx.clock _⟩;have Hh:Hj p j q mz.fs 1 {h with now:=((t+1:Nat):Int)}:=a2.clock hT' (by rw[c2];simp)
  rcases c4 with⟨_,c4,i,c5,c6⟩|⟨_,c4,c5⟩|⟨a,ua,ha,c4,_⟩
  ·exact .go pt j q i F Hh c4 (by rw[c2,eb];omega) (by rw[eb];omega) (by show h.whn<((t+1:Nat):Int);omega) c5 c6 (by decide)
  ·exact .ask pt j q 1 F Hh c4 (by decide) (by rw[eb];omega) (by rw[c2,eb];omega) (bo3 (d1.2 hfs)) (by rw[eb];omega) (by show h.whn<((t+1:Nat):Int);omega) c5 (by decide)
  exact(bF7 a3 c4 ha).elim
 |wait pt j q a ua a1 a2 a3 a4 a5 a6 a7 a8 a9 a10 a11=>
  have hf3:m.fs<=3:=by omega
  have hfs:=a1.f1;have hw:=a2.whn (by omega);have ha0:a≠0:=by omega
  refine bI6 po a1.bn hg (bo3 ⟨a,ua,by omega,a3⟩) hf3 (by omega) _ hd _ (fun mz b=> ?_);obtain⟨b1,b2,b3⟩:=b;refine bj5 hl (b2.trans hq) b1.bo.cb.ok b1.bo.cb.rx rfl ht ?_;have eb:Qx mz z lo=Qx m z lo:=bN6 a1.bn b1;have u1:=a1.u1;have u2:=a1.u2;have n1:=bF1 a9 hl2;have n2:=bS0 (b:=Qx m z lo) ⟨by omega,hl2.2⟩
  rcases b3 with⟨c1,c2,c3,c4⟩|⟨c1,c2,c3,c4⟩
  ·have F:Fq K p (t+1) pt j q mz {h with now:=((t+1:Nat):Int)} z lo:=⟨b1,by rw[c2];exact hfs,by rw[c3];exact c1,by rw[c2,c3,eb];exact u2,a1.hx.clock _⟩
   have Hh:Hj p j q mz.fs 1 {h with now:=((t+1:Nat):Int)}:=a2.clock1 hT' (by rw[c2];exact ah _)
   rcases c4 with⟨c4,_⟩|⟨a',ua',ha',c4,c5⟩
   ·exact(bF7 c4 a3 ha0).elim
   obtain⟨rfl,rfl⟩:=bJ0 a3 c4
   rcases c5 with⟨c5,c6,c7⟩|⟨c5,c6,c7⟩
   ·exact .wait pt j q a' ua' F Hh c6 a4 (by rw[eb];exact a5) c5 (by omega) (by rw[eb];exact a8) (by rw[c2,eb];exact a9) (by rw[c2,c3,eb];exact a10) c7
   exact .ask pt j q (a'+1) F Hh c6 (by omega) (by rw[eb];omega) (by rw[c2,eb];omega) (bo1 (by rw[c2,eb];exact a9)) (by rw[eb];omega) (by show h.whn<((t+1:Nat):Int);omega) c7 (by decide)
  have d1:=bi1 ⟨by omega,hf3⟩ c3;have d3:=d1.2 hfs;have d2:=be4 (X:=tm j+dl (Qx m z lo)) ⟨by omega,hf3⟩ c3 (by omega);have F:Fq K p (t+1) pt j q mz {h with now:=((t+1:Nat):Int)} z lo:=⟨b1,by rw[c2];omega,d1.1,by rw[c2,eb];omega,a1.hx.clock _⟩;have Hh:Hj p j q mz.fs 1 {h with now:=((t+1:Nat):Int)}:=a2.clock1 hT' (by rw[c2];omega)
  rcases c4 with⟨c4,_⟩|⟨c4,_⟩|⟨a',ua',ha',c4,c5⟩
  ·exact(bF7 c4 a3 ha0).elim
  ·exact(bF7 c4 a3 ha0).elim
  obtain⟨rfl,rfl⟩:=bJ0 a3 c4
  rcases c5 with⟨c5,c6,c7⟩|⟨c5,c6,c7⟩
  ·exact .wait pt j q a' ua' F Hh c6 a4 (by rw[eb];exact a5) c5 (by omega) (by rw[eb];exact a8) (by rw[c2,eb];omega) (bo3 (by omega)) c7
  exact .ask pt j q (a'+1) F Hh c6 (by omega) (by rw[eb];omega) (by rw[c2,eb];omega) (bo1 (by rw[c2,eb];omega)) (by rw[eb];omega) (by show h.whn<((t+1:Nat):Int);omega) c7 (by decide)
 |ask pt j q a a1 a2 a3 a4 a5 a6 a7 a8 a9 a10 a11=>cases a10
 |go pt j q i a1 a2 a3 a4 a5 a6 a7 a8 a9=>cases a8
 |yQ pt M s0 q a1 a2 a3 a4 a5 a6 a7 a8 a9=>
  exfalso
  have r1:=bJ1 a2;have r2:M<=p.L:=Lo.le a1.bn.fe;have r3:=po.L5;have r4:((([]:List ByteArray).length:Nat):Int)=0:=rfl;omega
 |fin pt s0 q a1 a2 a3 a4 a5 a6 a7 a8=>
  exfalso
  have r1:=bJ1 a3;have r3:=po.L5;have r4:((([]:List ByteArray).length:Nat):Int)=0:=rfl;omega
end Ho
namespace Ho
open Bs Js
variable{w0 w w':fV} {P:Nat→Prop} {Q B H G:Nat} {p:Pm} {K:Nat→Nat} {m m' m1 m2 mz:Mc} {t k g s0:Nat} {pt q qq x i:Int} {j:Option Nat} {h h':Host} {l c cs r:List ByteArray} {z:Lz} {lo:Int} {f:ByteArray}
theorem Hz.Ww(c:Hz p h):Hz p h.Ww:=⟨c.hx.Ww,c.port,c.whn⟩
theorem bO1(p:Pm)(id q pt:Int)(k:Nat):(blP p id q pt k).size<=2000:=bG5 _ _ _ _ _
theorem BkL.size(b:BkL p q pt s0 l):∀s ∈ l,s.size<=2000:=fun s hs=>by
 obtain⟨id,jx,_,_,_,e⟩:=b s hs;rw[e];exact bO1 _ _ _ _ _
theorem BkL.tail{a:ByteArray}(b:BkL p q pt s0 (a::l)):BkL p q pt s0 l:=fun x hx=>b x (List.mem_cons_of_mem _ hx)
def FrG(K:Nat->Nat)(p:Pm)(k t:Nat)(f:ByteArray)(c:List ByteArray)(m:Mc)(h:Host)(z:Lz)(lo:Int):Prop:=
 ∃k' l h',k=k'+1/\YC NA h f l h'/\l.length<=8/\(∀s ∈ l,s.size<=2000)/\h'.now=h.now/\(bse m z lo<2->Jc K p k' t c m h' (lk m) (bse m z lo+1))/\Ac K p k' t c m h' (lk m) (bse m z lo) l
theorem bF0{k:Nat}(h:1<=k):∃k',k=k'+1:=⟨k-1,by omega⟩
theorem bJ8(h1:h.whn<h.now):rs h=0:=bo4 (Int.ne_of_lt h1)
theorem bR2{c:List ByteArray}(po:p.Ok)(hl:0<=lo/\lo<=2)(a1:Sx x m)(a2:Sl K p t x m)(a3:1<=m.ws)(a4:m.ws<=bse m z lo+2)(a5:(t:Int)<m.wu)(a6:m.wu<=bx x+ef m.ws)(a7:Hz p h)(a8:(t:Int)<=bx x+17)(a9:bQ i)(hc:c=[])(hf:f=be6 x i m.gF)(a11:x=1->3<=k)(a12:2<=k):FrG K p k t f c m h z lo:=by
 obtain⟨k,rfl⟩:=bF0 (show 1<=k by omega);have hne:0<=h.next/\h.next<=4294967295:=by rw[a7.hx.next];exact po.nxb
 have hle:0<=h.gK/\h.gK<=4294967295:=by rw[a7.hx.gK];decide
 have hJ:bse m z lo<2->Jc K p k t c m h.Ww (lk m) (bse m z lo+1):=fun _=>.A_ x a1 a2 a3 (by rw[be8];omega) a5 a6 a7.Ww hc
 rcases a1 with rfl|⟨rfl,e2,e3⟩
 ·have HA:YC NA h (YX i m.gF 1 []) [ad8 h m.gF 2] h.Ww:=by
   unfold YX;exact dn hne hle 255 255 255 255 255 255 i m.gF 0 4294967295 0 a9 a2.cb.ok.gF (by decide) (by decide) (by decide) 1 2 [] (bo1 ⟨rfl,rfl⟩) rfl rfl rfl (by decide) (an9 1 m.gF).1
  have hf1:f=YX i m.gF 1 []:=hf.trans (bM7 i m.gF);rw[<-hf1]at HA;refine⟨k,_,_,rfl,HA,by simp,fun s hs=>by rw[bD3]at hs;rw[hs];exact ab6 _ _ _,rfl,hJ,?_⟩;have a11':=a11 rfl;exact .off h a2 a3 (by rw[be8];exact a4) a5 a6 a7.Ww a8 a7.hx hc (by omega)
 have HA:YC NA h (bP4 i m.gF) [ad8 h m.gF 5] h.Ww:=by
  unfold bP4 YX;exact dn hne hle 255 255 255 255 255 255 i m.gF 0 4294967295 0 a9 a2.cb.ok.gF (by decide) (by decide) (by decide) 3 5 _ (bo3 ⟨rfl,rfl⟩) rfl rfl rfl (by decide) (an9 1 m.gF).2
 have hf1:f=bP4 i m.gF:=hf.trans (bo4 (by decide));rw[<-hf1]at HA;refine⟨k,_,_,rfl,HA,by simp,fun s hs=>by rw[bD3]at hs;rw[hs];exact ab6 _ _ _,rfl,hJ,?_⟩;exact .ack h a2 e2 e3 a3 (by rw[be8];exact a4) a5 a6 a7.Ww a8 a7.hx hc (by omega)
theorem Fq.lost{b:Int}(F:Fq K p t pt j q m h z lo)(hb:Qx m z lo<=b)(e:lk m=l1 m)(hx:Hx p h'):Fq K p t pt j q m h' (lk m) b:=
 ⟨F.bn,F.f1,F.u1,by rw[e,ao8];have:=F.u2;have:=bf2 hb;omega,hx⟩
theorem bR8{a:Int}{c:List ByteArray}(hl:0<=lo/\lo<=2)(F:Fq K p t pt j q m h z lo)(a2:Hj p j q m.fs 1 h)(a3:Pe p a ((t+2:Nat):Int) m)(a4:1<=a)(a5:a<=Qx m z lo+1)(a6:m.fs<=Qx m z lo+2)(a7:m.fs<=Qx m z lo+1∨(t:Int)+3<=m.fu)(a8:(t:Int)<=tm j+dl (Qx m z lo+1))(a9:h.whn<h.now)(hc:c=[])(hf:f=az1)(a11:9001<=k):FrG K p k t f c m h z lo:=by
 obtain⟨k,rfl⟩:=bF0 (show 1<=k by omega);obtain⟨y,i,y1,_⟩:=id a3;have e1:=be5 y1;have e2:bse m z lo=Qx m z lo:=be1 y1;have hb:=bd7 (m:=m) (z:=z) hl;rw[hf];refine⟨k,_,_,rfl,Hd,by simp,fun s hs=>by rw[bD3]at hs;rw[hs];exact aj2,rfl,fun h2=> ?_,?_⟩
 ·rw[e2]at h2 ⊢
  have s1:Qx m (lk m) (Qx m z lo+1)=Qx m z lo+1:=by rw[e1,ao8]
  exact .wait pt j q a _ (F.lost (by omega) e1 F.hx) a2 a3 a4 (by rw[s1];exact a5) (by omega) (by omega) (by rw[s1];omega) (by rw[s1];omega) (by rw[s1];omega) hc
 rw[e2];have s1:Qx m (lk m) (Qx m z lo)=Qx m z lo:=by rw[e1,ao8]
 exact .tell pt j q a (F.lost (ah _) e1 F.hx) a2 a3 a4 (by rw[s1];exact a5) (by rw[s1];exact a6) (by rw[s1];exact a7) (by rw[s1];exact a8) a9 hc (by omega)
theorem bU9{c:List ByteArray}(po:p.Ok)(hl:0<=lo/\lo<=2)(F:Fq K p t pt j q m h z lo)(a2:Hj p j q m.fs 1 h)(a3:Kw m)(a4:m.fs<=Qx m z lo+2)(a5:(t:Int)<=tm j+dl (Qx m z lo+1))(a6:h.whn<h.now)(a7:bQ i)(hc:c=[])(hf:f=tP p i m)(a9:9000<=k):FrG K p k t f c m h z lo:=by
 obtain⟨k,rfl⟩:=bF0 (show 1<=k by omega);obtain⟨y,y1,y2⟩:=id a3;have e1:=be5 y1;have e2:bse m z lo=Qx m z lo:=be1 y1;have hb:=bd7 (m:=m) (z:=z) hl;have hpt:=F.bn.bo.pb;have s1:Qx m (lk m) (Qx m z lo+1)=Qx m z lo+1:=by rw[e1,ao8]
 have s2:Qx m (lk m) (Qx m z lo)=Qx m z lo:=by rw[e1,ao8]
 rw[hf]
 cases j with
 |none=>
  obtain⟨c1,c2,c3⟩:=a2;have c2':h.port+((1:Nat):Int)<=m.fs:=c2;have R:Re p pt m:=F.bn.fe;have eT:tP p i m=be0 p i pt 69 (rqB p):=by unfold tP;rw[R.sF,R.sT,R.sL]
  rw[eT];obtain⟨l,h',id,HA,hid,hll,hx',hl',hw',hn'⟩:=bG7 F.hx po (by omega) a6 a7 hpt;have ew:h'.whn=0:=hw'.trans c3;have hport:=hl'.port;have hlt':h'.whn<h'.now:=by rw[hw',hn'];exact a6
  refine⟨k,l,h',rfl,HA,?_,?_,hn',fun h2=> ?_,?_⟩
  ·rcases hll with⟨_,e⟩|⟨_,e⟩<;>rw[e]<;>exact Nat.succ_le_succ (bp3 _)
  ·intro s hs
   rcases hll with⟨_,e⟩|⟨_,e⟩<;>rw[e,bD3]at hs<;>rw[hs]<;>exact bG5 _ _ _ _ _
  ·rw[e2]at h2 ⊢
   refine .quiet pt none q (F.lost (by omega) e1 hx') ⟨by omega,?_,ew⟩ (bo3 a3) (by rw[s1];omega) hc;show h'.port+((0:Nat):Int)<=m.fs;omega
  rw[e2]
  rcases hll with⟨e,e'⟩|⟨e,e'⟩<;>rw[e']
  ·exact .bT1 pt q _ id e (F.lost (ah _) e1 hx') hl' (by omega) hlt' ew a3 (by rw[s2];exact a4) (by rw[s2];exact a5) hc hid (by omega)
  exact .first pt q _ id e (F.lost (ah _) e1 hx') hl' (by omega) hlt' ew a3 (by rw[s2];exact a4) (by rw[s2];exact a5) hc hid (by omega)
 |some M=>
  obtain⟨s0,c1,c2,c3⟩:=a2;have R:Lo p pt M q m:=F.bn.fe;have eT:tP p i m=be0 p i pt q (XM M):=by unfold tP;rw[R.sF,R.sT,R.sL]
  rw[eT];have hML:=R.le;obtain⟨l,h',HA,hl8,hbk,hx',hl',hw',hn',hla',hhd⟩:=be7 F.hx po c1 ⟨c2,c3,by omega⟩ (fun _=>Int.ne_of_lt a6) a7 hpt;refine⟨k,l,h',rfl,HA,hl8,hbk.size,hn',fun h2=> ?_,?_⟩
  ·rw[e2]at h2 ⊢
   exact .quiet pt (some M) q (F.lost (by omega) e1 hx') ⟨M,hl',bn7 _,by omega⟩ (bo3 a3) (by rw[s1];omega) hc
  rw[e2];obtain⟨id,l',hid,el⟩:=hhd hML;rw[el]at hbk hl8 ⊢;have hrs:rs h'=(M:Int)+1:=by unfold rs;rw[bp0 hw',hla']
  have hl9:l'.length+1<=8:=hl8;exact .hot pt M q id l' (F.lost (ah _) e1 hx') hl' a3 (by rw[s2];exact a4) (by rw[s2];exact a5) hid hc hbk.tail (by omega) (by rw[hrs];omega)
theorem bO8{M c0:Nat}{c:List ByteArray}(po:p.Ok)(hl:0<=lo/\lo<=2)(F:Fq K p t pt (some M) q m h z lo)(a2:Hl p q s0 h)(a3:s0<=M)(a4:M<=s0+p.w)(a5:Kw m)(a6:m.fs<=Qx m z lo+1)(a7:(t:Int)<=tm (some M)+dl (Qx m z lo))(h1:s0<=c0)(h2:c0<=M)(h3:bQ i)(hf:f=be0 p i pt q (XM c0))(a8:AkL p pt q M c0 c)(a9:(((f::c).length:Nat):Int)+17*(503-rs h)<=k):FrG K p k t f c m h z lo:=by
 have hL:=po.L5;have hML:M<=p.L:=Lo.le F.bn.fe;have hrs:=bJ1 a2;have hlc:(((f::c).length:Nat):Int)=(c.length:Int)+1:=by rw[bn5];omega
 rw[hlc]at a9;obtain⟨k,rfl⟩:=bF0 (show 1<=k by omega);obtain⟨y,y1,y2⟩:=id a5;have e1:=be5 y1;have e2:bse m z lo=Qx m z lo:=be1 y1;have hb:=bd7 (m:=m) (z:=z) hl;have hpt:=F.bn.bo.pb;have s1:Qx m (lk m) (Qx m z lo+1)=Qx m z lo+1:=by rw[e1,ao8]
 have s2:Qx m (lk m) (Qx m z lo)=Qx m z lo:=by rw[e1,ao8]
 have dm:=bf2 (f:=Qx m z lo) (f':=Qx m z lo+1) (by omega);have a9':(c.length:Int)+17*(503-rs h)<=k:=by omega
 rw[hf]
 by_cases ho:h.last=(c0:Int)/\h.whn=h.now
 ·have a8':AkL p pt q M s0 c:=a8.mono (bn7 _) h1
  refine⟨k,[],h,rfl,bg6 F.hx po a2 (by omega) ho.1 ho.2 h3 hpt,by decide,fun s hs=>absurd hs (by simp),rfl,fun h2=> ?_,?_⟩
  ·rw[e2]at h2 ⊢
   exact .yQ pt M s0 q (F.lost (by omega) e1 F.hx) a2 a3 a4 a5 (by rw[s1];omega) (by rw[s1];omega) a8' a9'
  rw[e2];exact .nil (.yQ pt M s0 q (F.lost (ah _) e1 F.hx) a2 a3 a4 a5 (by rw[s2];exact a6) (by rw[s2];exact a7) a8' a9')
 obtain⟨l,h',HA,hl8,hbk,hx',hl',hw',hn',hla',_⟩:=be7 F.hx po a2 ⟨h1,by omega,by omega⟩ (fun e e'=>ho ⟨e,e'⟩) h3 hpt;have hrs':rs h'=(c0:Int)+1:=by unfold rs;rw[bp0 hw',hla']
 have hrs2:rs h+1<=rs h':=by
  rw[hrs'];unfold rs
  split
  ·rename_i e
   have:=a2.last e;have:h.last≠(c0:Int):=fun e'=>ho ⟨e',e⟩;omega
  omega
 refine⟨k,l,h',rfl,HA,hl8,hbk.size,hn',fun h2=> ?_,?_⟩
 ·rw[e2]at h2 ⊢
  exact .yQ pt M c0 q (F.lost (by omega) e1 hx') hl' (by omega) (by omega) a5 (by rw[s1];omega) (by rw[s1];omega) a8 (by omega)
 rw[e2];exact .blk pt M c0 q l (F.lost (ah _) e1 hx') hl' (by omega) (by omega) a5 (by rw[s2];exact a6) (by rw[s2];exact a7) a8 hbk (by omega)
theorem bR6{c0:Nat}{c:List ByteArray}(po:p.Ok)(a1:Dq p m)(hx:Hx p h)(a2:Hl p q s0 h)(a3:s0<=p.L+1)(a4:p.L+1<=s0+p.w)(hpt:1024<=pt/\pt<=61023)(h1:s0<=c0)(h2:c0<=p.L+1)(h3:bQ i)(hf:f=be0 p i pt q (XM c0))(a8:AkL p pt q (p.L+1) c0 c)(a9:(((f::c).length:Nat):Int)+17*(503-rs h)<=k):FrG K p k t f c m h z lo:=by
 have hL:=po.L5;have hrs:=bJ1 a2;have hlc:(((f::c).length:Nat):Int)=(c.length:Int)+1:=by rw[bn5];omega
 rw[hlc]at a9;obtain⟨k,rfl⟩:=bF0 (show 1<=k by omega);have a9':(c.length:Int)+17*(503-rs h)<=k:=by omega
 rw[hf]
 by_cases ho:h.last=(c0:Int)/\h.whn=h.now
 ·have a8':AkL p pt q (p.L+1) s0 c:=a8.mono (bn7 _) h1
  exact⟨k,[],h,rfl,bg6 hx po a2 (by omega) ho.1 ho.2 h3 hpt,by decide,fun s hs=>absurd hs (by simp),rfl,fun _=>.fin pt s0 q a1 hx a2 a3 a4 hpt a8' a9',.nil (.fin pt s0 q a1 hx a2 a3 a4 hpt a8' a9')⟩
 obtain⟨l,h',HA,hl8,hbk,hx',hl',hw',hn',hla',_⟩:=be7 hx po a2 ⟨h1,by omega,by omega⟩ (fun e e'=>ho ⟨e,e'⟩) h3 hpt;have hrs':rs h'=(c0:Int)+1:=by unfold rs;rw[bp0 hw',hla']
 have hrs2:rs h+1<=rs h':=by
  rw[hrs'];unfold rs
  split
  ·rename_i e
   have:=a2.last e;have:h.last≠(c0:Int):=fun e'=>ho ⟨e',e⟩;omega
  omega
 exact⟨k,l,h',rfl,HA,hl8,hbk.size,hn',fun _=>.fin pt c0 q a1 hx' hl' (by omega) (by omega) hpt a8 (by omega),.fin pt c0 q l a1 hx' hl' (by omega) (by omega) hpt a8 hbk (by omega)⟩
theorem bH6(po:p.Ok)(k t:Nat)(f:ByteArray)(r:List ByteArray)(m:Mc)(h:Host)(z:Lz)(lo:Int)(J:JB K p k t (f::r) m h z lo):∃k' l h',k=k'+1/\YC NA h f l h'/\l.length<=8/\(∀s ∈ l,s.size<=2000)/\(bse m z lo<2->JB K p k' t r m h' (lk m) (bse m z lo+1))/\AB K p k' t r m h' (lk m) (bse m z lo) l:=by
 obtain⟨hl,hq,ho,hr,hn,ht,J⟩:=J;have hbse:=bg2 (m:=m) (z:=z) hl;have fin:FrG K p k (t+1) f (r++m.gq) m h z lo->∃k' l h',k=k'+1/\YC NA h f l h'/\l.length<=8/\(∀s ∈ l,s.size<=2000)/\(bse m z lo<2->JB K p k' t r m h' (lk m) (bse m z lo+1))/\AB K p k' t r m h' (lk m) (bse m z lo) l:=by
  rintro ⟨k',l,h',e1,e2,e3,e4,e5,e6,e7⟩;exact⟨k',l,h',e1,e2,e3,e4,fun h2=>⟨by omega,hq,ho,hr,e5.trans hn,ht,e6 h2⟩,hbse,hq,ho,hr,e5.trans hn,ht,e7⟩
 apply fin;rw[bw1]at J;generalize hcc:f::(r++m.gq)=cc at J
 cases J with
 |A_ x a1 a2 a3 a4 a5 a6 a7 a8=>rw[<-hcc]at a8;cases a8
 |said x i a1 a2 a3 a4 a5 a6 a7 a8 a9 a10 a11 a12=>
  obtain⟨e1,e2⟩:=ae (hcc.trans a10);exact bR2 po hl a1 a2 a3 a4 a5 a6 a7 a8 a9 e2 e1 a11 a12
 |pro g a1 a2 a3 a4 a5=>
  rcases a5 with e|⟨e,hk⟩
  ·rw[<-hcc]at e;cases e
  obtain⟨e1,e2⟩:=ae (hcc.trans e);obtain⟨k,rfl⟩:=bF0 hk;rw[e1,e2];exact⟨k,[],h,rfl,aR9,by decide,fun s hs=>absurd hs (by simp),rfl,fun _=>.pro g a1 a2 a3 a4 (bo1 rfl),.nil (.pro g a1 a2 a3 a4 (bo1 rfl))⟩
 |quiet pt j q a1 a2 a3 a4 a5=>rw[<-hcc]at a5;cases a5
 |wait pt j q a ua a1 a2 a3 a4 a5 a6 a7 a8 a9 a10 a11=>rw[<-hcc]at a11;cases a11
 |ask pt j q a a1 a2 a3 a4 a5 a6 a7 a8 a9 a10 a11=>
  obtain⟨e1,e2⟩:=ae (hcc.trans a10);exact bR8 hl a1 a2 a3 a4 a5 a6 a7 a8 a9 e2 e1 a11
 |go pt j q i a1 a2 a3 a4 a5 a6 a7 a8 a9=>
  obtain⟨e1,e2⟩:=ae (hcc.trans a8);exact bU9 po hl a1 a2 a3 a4 a5 a6 a7 e2 e1 a9
 |yQ pt M s0 q a1 a2 a3 a4 a5 a6 a7 a8 a9=>
  subst hcc;obtain⟨c0,i,b1,b2,b3,b4,b5⟩:=a8;exact bO8 po hl a1 a2 a3 a4 a5 a6 a7 b1 b2 b3 b4 b5 a9
 |fin pt s0 q a1 a2 a3 a4 a5 a6 a7 a8=>
  subst hcc;obtain⟨c0,i,b1,b2,b3,b4,b5⟩:=a7;exact bR6 po a1 a2 a3 a4 a5 a6 b1 b2 b3 b4 b5 a8
end Ho
namespace Ho
open Bs Js
variable{w0 w w':fV} {P:Nat→Prop} {Q B H G:Nat} {p:Pm} {K:Nat→Nat} {m m' m1 m2 mz:Mc} {t k g s0 M M0 n:Nat} {pt q qq x i b:Int} {j:Option Nat} {h h':Host} {l c cs r:List ByteArray} {z:Lz} {lo:Int} {f a:ByteArray} {fl:Bool}
def Lx(K:Nat->Nat)(p:Pm)(t:Nat)(pt q:Int)(s0 M0:Nat)(b:Int)(n:Nat)(r:List ByteArray)(fl:Bool)(m:Mc):Prop:=
 (r++m.gq).length<=n/\((∃M,Bn K p t pt (some M) q m/\Kw m/\s0<=M/\M<=s0+p.w/\(fl=true->m.fs=1/\FuB t 0 m.fu)/\(M=M0/\(t:Int)<=tm (some M0)+dl b∨M0<M/\(t:Int)<=tm (some M))/\AkL p pt q M s0 (r++m.gq))∨(Dq p m/\p.L+1<=s0+p.w/\s0<=p.L+1/\AkL p pt q (p.L+1) s0 (r++m.gq)))
theorem Nx.lx(po:p.Ok)(N:Nx K p t pt M q m.gq mz)(a:AkL p pt q M s0 (r++m.gq))(hl:(r++m.gq).length<=n)(h0:s0<=M)(hM:M<s0+p.w)(ht:(t:Int)<=tm (some (M+1))):Lx K p t pt q s0 M b (n+1) r true mz/\Lx K p t pt q s0 (M+1) 0 (n+1) r true mz:=by
 rcases N with⟨n1,n2,n3,n4,n5,n6⟩|⟨n1,n2,n3⟩
 ·obtain⟨g1,g2⟩:=a.gq (by omega) (bB9 _) n6
  exact⟨⟨by omega,bo1 ⟨M+1,n2,n3,by omega,by omega,fun _=>⟨n4,n5⟩,bo3 ⟨wy _,ht⟩,g1⟩⟩,by omega,bo1 ⟨M+1,n2,n3,by omega,by omega,fun _=>⟨n4,n5⟩,bo1 ⟨rfl,by have:=bJ3 0;omega⟩,g1⟩⟩
 obtain⟨g1,g2⟩:=a.gq (by omega) (bB9 _) n3;rw[n1]at g1;exact⟨⟨by omega,bo3 ⟨n2,by omega,by omega,g1⟩⟩,by omega,bo3 ⟨n2,by omega,by omega,g1⟩⟩
theorem bJ2(M:Nat):tm (some (M+1))=tm (some M)+28:=by
 show 65+28*((M+1:Nat):Int)=65+28*(M:Int)+28;omega
theorem bJ7(po:p.Ok)(ht:t<=90000)(hq:bQ q)(hb:b<=3)(x:Lx K p t pt q s0 M0 b n r fl m)(jx:Nat)(hj:jx<=p.L)(hjw:jx<s0+p.w)(id:Int)(hid:bQ id):Ev K (blP p id q pt jx) m (fun mz=>Lx K p t pt q s0 M0 b (n+1) r true mz):=by
 obtain⟨x0,x⟩:=x
 rcases x with⟨M,y1,y2,y3,y4,y5,y6,y7⟩|⟨y1,y2,y3,y4⟩
 ·refine(bN5 po y1 ht hq y2 jx hj id hid).mono ?_
  rintro mz (⟨e,v1,v2,v3,v4,v5⟩|⟨e,v⟩)
  ·obtain⟨g1,g2⟩:=y7.gq y3 (bn7 _) v5
   exact⟨by omega,bo1 ⟨M,v1,v2,y3,y4,fun _=>⟨v3,v4⟩,y6,g1⟩⟩
  subst e;have h1:dl b<=dl 3:=bf2 hb;have h3:dl 3=28:=rfl;have ht':(t:Int)<=tm (some (jx+1)):=by
   rw[bJ2]
   rcases y6 with⟨rfl,e⟩|⟨_,e⟩<;>omega
  rcases v with⟨n1,n2,n3,n4,n5,n6⟩|⟨n1,n2,n3⟩
  ·obtain⟨g1,g2⟩:=y7.gq (k:=jx+1) (by omega) (bB9 _) n6
   exact⟨by omega,bo1 ⟨jx+1,n2,n3,by omega,by omega,fun _=>⟨n4,n5⟩,bo3 ⟨by omega,ht'⟩,g1⟩⟩
  obtain⟨g1,g2⟩:=y7.gq (k:=jx+1) (by omega) (bB9 _) n3;rw[n1]at g1;exact⟨by omega,bo3 ⟨n2,by omega,by omega,g1⟩⟩
 refine(bF3 y1).mono ?_;rintro mz ⟨v1,v2⟩;exact⟨by rw[v2];omega,bo3 ⟨v1,y2,y3,by rw[v2];exact y4⟩⟩
theorem Lx.ac(po:p.Ok)(hl:0<=lo/\lo<=2)(x:Lx K p t pt q s0 M0 b n r true m)(hx:Hx p h)(hh:Hl p q s0 h)(hpt:1024<=pt/\pt<=61023)(hb:Bn K p t pt (some M0) q m->b<=Qx m z lo)(hk:BkL p q pt s0 l)(hc:(n:Int)+2*(l.length:Int)+17*(503-rs h)<=k):Ac K p k t (r++m.gq) m h z lo l:=by
 obtain⟨x0,x⟩:=x
 rcases x with⟨M,y1,y2,y3,y4,y5,y6,y7⟩|⟨y1,y2,y3,y4⟩
 ·obtain⟨f1,f2⟩:=y5 rfl
  have hbs:=bd7 (m:=m) (z:=z) hl;have d0:=bJ3 (Qx m z lo);have ht:(t:Int)<=tm (some M)+dl (Qx m z lo):=by
   rcases y6 with⟨rfl,e⟩|⟨_,e⟩
   ·have:=bf2 (hb y1)
    omega
   omega
  have d1:=(bi1 (by decide) f2).1;have d2:=be4 (X:=tm (some M)+dl (Qx m z lo)) (f:=0) (by decide) f2 (by have:ef 0=0:=rfl;omega);have d2':m.fu<=tm (some M)+dl (Qx m z lo)+ef 1:=d2;exact .blk pt M s0 q l ⟨y1,by rw[f1];decide,d1,by rw[f1];omega,hx⟩ hh y3 y4 y2 (by rw[f1];omega) ht y7 hk (by omega)
 exact .fin pt s0 q l y1 hx hh y3 y2 hpt y4 hk (by omega)
theorem Lx.okx(x:Lx K p t pt q s0 M0 b n r fl m):m.Ok/\m.rx=16:=by
 rcases x.2 with⟨M,y1,_⟩|⟨y1,_⟩
 ·exact⟨y1.bo.cb.ok,y1.bo.cb.rx⟩
 exact⟨y1.ok,y1.rx⟩
theorem bg5{R:fV->(Nat->Prop)->Prop}{Z Z':Mc->Prop}(q:bd9 R m Z)(hz:∀x,Z x->Z' x):bd9 R m Z':=
 fun w Q B hb hr=>(q w Q B hb hr).mono fun ee w'=>by
  rintro ⟨e,mz,q,hm⟩;exact⟨e,mz,hz mz q,hm⟩
def AnG(K:Nat->Nat)(p:Pm)(k t:Nat)(r:List ByteArray)(m:Mc)(h:Host)(z:Lz)(lo:Int)(a:ByteArray)(l:List ByteArray):Prop:=
 (bse m z lo<2->Ac K p k t (r++m.gq) m h (lk m) (bse m z lo+1) l)/\∃Z1 Z2:Mc->Prop,Ev K a m Z1/\(∀m1,Z1 m1->Ev K a m1 Z2)/\(∀m1,Z1 m1∨Z2 m1->m1.Ok/\m1.rx=16/\Ac K p k t (r++m1.gq) m1 h (lk m) (bse m z lo) l)
theorem bg1{r g:List ByteArray}(h:r++g=[]):r=[]/\g=[]:=List.append_eq_nil_iff.1 h
theorem bS5{h0:Host}(po:p.Ok)(ht:t<=90000)(a1:Sl K p t 1 m)(a2:1<=m.ws)(a3:m.ws<=bse m z lo+2)(a4:(t:Int)<m.wu)(a5:m.wu<=bx 1+ef m.ws)(a6:Hz p h)(a7:(t:Int)<=18)(a8:Hx p h0)(a9:r++m.gq=[])(a10:2<=k)(hl:0<=lo/\lo<=2):AnG K p k t r m h z lo (ad8 h0 m.gF 2) []:=by
 obtain⟨e1,e2⟩:=bg1 a9;have hbse:=bg2 (m:=m) (z:=z) hl;refine⟨fun _=>.nil (.A_ 1 (bo1 rfl) a1 a2 (by rw[be8];omega) a4 a5 a6 a9),_,_,bO0 po a1 e2 ht a8 m.gF rfl,fun m1 y=>(bK1 po y.1 a8 m.gF y.2.1).mono (Z':=fun mz=>Sl K p t 2 mz/\mz.gF=m.gF/\mz.iB=167772215/\mz.iO=167772161/\mz.ws=1/\FuB t 0 mz.wu/\∃i,bQ i/\mz.gq=[be6 2 i mz.gF]) (fun mz s=> ?_),fun m1 y=> ?_⟩
 ·obtain⟨y1,y2,y3,y4,y5,y6,i,y7,y8⟩:=y
  have ex:mz.gF=m1.gF:=(by5 Mc.gF s.e:);exact⟨y1.same s.e s.ok s.cd,ex.trans y2,(by5 Mc.iB s.e).trans y3,(by5 Mc.iO s.e).trans y4,(by5 Mc.ws s.e).trans y5,by rw[show mz.wu=m1.wu from(by5 Mc.wu s.e:)];exact y6,i,y7,by rw[s.gq,ex];exact y8⟩
 have y':Sl K p t 2 m1/\m1.gF=m.gF/\m1.iB=167772215/\m1.iO=167772161/\m1.ws=1/\FuB t 0 m1.wu/\∃i,bQ i/\m1.gq=[be6 2 i m1.gF]:=by
  rcases y with y|y<;>exact y
 obtain⟨y1,y2,y3,y4,y5,y6,i,y7,y8⟩:=y';have hb2:=bg2 (m:=m1) (z:=lk m) hbse;have d1:=(bi1 (by decide) y6).1;have d2:=be4 (X:=18) (f:=0) (by decide) y6 (by have:ef 0=0:=rfl;omega);refine⟨y1.cb.ok,y1.cb.rx,.nil ?_⟩;rw[e1,bw8];exact .said 2 i (bo3 ⟨rfl,y3,y4⟩) y1 (by rw[y5];decide) (by rw[y5];omega) d1 (by rw[y5];exact d2) a6 (by show(t:Int)<=18+17;omega) y7 y8 (fun e=>absurd e (by decide)) a10
theorem bS9{h0:Host}(po:p.Ok)(a1:Sl K p t 2 m)(b1:m.iB=167772215)(b2:m.iO=167772161)(a2:1<=m.ws)(a3:m.ws<=bse m z lo+2)(a4:(t:Int)<m.wu)(a5:m.wu<=bx 2+ef m.ws)(a6:Hz p h)(a7:(t:Int)<=35)(a8:Hx p h0)(a9:r++m.gq=[])(a10:1<=k):AnG K p k t r m h z lo (ad8 h0 m.gF 5) []:=by
 obtain⟨e1,e2⟩:=bg1 a9;refine⟨fun _=>.nil (.A_ 2 (bo3 ⟨rfl,b1,b2⟩) a1 a2 (by rw[be8];omega) a4 a5 a6 a9),_,_,bR9 po a1 e2 b1 b2 a8 m.gF rfl,fun m1 y=>(bQ9 po y.1 a8 m.gF y.2.1).mono (Z':=fun mz=>Pb K p t t mz/\mz.gF=m.gF/\mz.gq=[Yg]) (fun mz s=> ?_),fun m1 y=> ?_⟩
 ·obtain⟨y1,y2,y3⟩:=y
  exact⟨y1.same s.e s.ok s.cd,(by5 Mc.gF s.e).trans y2,s.gq.trans y3⟩
 have y':Pb K p t t m1/\m1.gF=m.gF/\m1.gq=[Yg]:=by
  rcases y with y|y<;>exact y
 obtain⟨y1,y2,y3⟩:=y';refine⟨y1.sl.cb.ok,y1.sl.cb.rx,.nil (.pro t y1 (by omega) (by omega) a6 (bo3 ⟨?_,a10⟩))⟩;rw[e1,y3];rfl
theorem bQ2{a:Int}(hl:0<=lo/\lo<=2)(F:Fq K p t pt j q m h z lo)(a2:Hj p j q m.fs 1 h)(a3:Pe p a ((t+2:Nat):Int) m)(a4:1<=a)(a5:a<=Qx m z lo+1)(a6:m.fs<=Qx m z lo+2)(a7:m.fs<=Qx m z lo+1∨(t:Int)+3<=m.fu)(a8:(t:Int)<=tm j+dl (Qx m z lo+1))(a9:h.whn<h.now)(hc:r++m.gq=[])(a11:9000<=k):AnG K p k t r m h z lo aB9 []:=by
 obtain⟨r1,r2⟩:=bg1 hc;obtain⟨y,i,y1,_⟩:=id a3;have e1:=be5 y1;have e2:bse m z lo=Qx m z lo:=be1 y1;have hb:=bd7 (m:=m) (z:=z) hl;refine⟨fun h2=> ?_,_,_,bO7 F.bn (by rw[r2];decide) a3,fun m1 y=>(bO4 (F.bn.same y.1 y.2.1) y.2.2.1).mono (Z':=fun mz=>vx mz=vx m/\mz.Ok/\Kw mz/\∃i,bQ i/\mz.gq=m.gq++ [tP p i mz]) (fun mz s=> ?_),fun m1 y=> ?_⟩
 ·rw[e2]at h2 ⊢
  have s1:Qx m (lk m) (Qx m z lo+1)=Qx m z lo+1:=by rw[e1,ao8]
  exact .nil (.wait pt j q a _ (F.lost (by omega) e1 F.hx) a2 a3 a4 (by rw[s1];exact a5) (by omega) (by omega) (by rw[s1];omega) (by rw[s1];omega) (by rw[s1];omega) hc)
 ·obtain⟨v1,v2,v3,i,v4,v5⟩:=y
  obtain⟨s1,s2,s3,s4⟩:=s;refine⟨s1.trans v1,s2,s3,i,v4,?_⟩;have et:tP p i mz=tP p i m1:=by
   unfold tP;rw[show mz.sF=m1.sF from(by5 Mc.sF s1:),show mz.sT=m1.sT from(by5 Mc.sT s1:),show mz.sL=m1.sL from(by5 Mc.sL s1:)]
  rw[s4,et];exact v5
 have y':vx m1=vx m/\m1.Ok/\Kw m1/\∃i,bQ i/\m1.gq=m.gq++ [tP p i m1]:=by
  rcases y with y|y<;>exact y
 obtain⟨v1,v2,v3,i,v4,v5⟩:=y';have F2:Fq K p t pt j q m1 h (lk m) (Qx m z lo):=(F.lost (ah _) e1 F.hx).same v1 v2;have ef:m1.fs=m.fs:=(by5 Mc.fs v1:);have s2:Qx m1 (lk m) (Qx m z lo)=Qx m z lo:=by rw[bi0 v1,e1,ao8]
 refine⟨v2,F2.bn.bo.cb.rx,.nil ?_⟩;rw[e2,r1,bw8,v5,r2,bw8];exact .go pt j q i F2 (by rw[ef];exact a2) v3 (by rw[ef,s2];exact a6) (by rw[s2];exact a8) a9 v4 rfl a11
theorem bP6{id:Int}(po:p.Ok)(ht:t<=90000)(hl:0<=lo/\lo<=2)(hob:p.ob=true)(F:Fq K p t pt none q m h z lo)(a2:Hl p qq 0 h)(a3:h.port<=m.fs)(a4:h.whn<h.now)(a4':h.whn=0)(a5:Kw m)(a6:m.fs<=Qx m z lo+2)(a7:(t:Int)<=tm none+dl (Qx m z lo+1))(hc:r++m.gq=[])(hid:bQ id)(a8:8999<=k):AnG K p k t r m h z lo (bh8 p id qq pt) []:=by
 obtain⟨r1,r2⟩:=bg1 hc;have a5':=a5;obtain⟨y,y1,_⟩:=a5';have e1:=be5 y1;have e2:bse m z lo=Qx m z lo:=be1 y1;have hb:=bd7 (m:=m) (z:=z) hl;have pq:=a2.pq;have hport:=a2.port;have hok:=bO6 po;have hu:=a2.u16.1;have d28:=bF4 hb.2;refine⟨fun h2=> ?_,_,_,bP0 po hok hob F.bn ht hu a5 id hid,fun m1 y=>(bM6 po hok y.1 hu id hid).mono (Z':=fun mz=>Bn K p t pt (some 0) qq mz/\Kw mz/\mz.fs=1/\FuB t 0 mz.fu/\GqA p pt qq 0 m.gq mz.gq) (fun mz s=> ?_),fun m1 y=> ?_⟩
 ·rw[e2]at h2 ⊢
  have s1:Qx m (lk m) (Qx m z lo+1)=Qx m z lo+1:=by rw[e1,ao8]
  refine .nil (.quiet pt none q (F.lost (by omega) e1 F.hx) ⟨by omega,?_,a4'⟩ (bo3 a5) (by rw[s1];omega) hc);show h.port+((0:Nat):Int)<=m.fs;omega
 ·obtain⟨v1,v2,v3,v4,v5⟩:=y
  exact⟨v1.same s.e s.ok,v2.cd s.cd,(by5 Mc.fs s.e).trans v3,by rw[show mz.fu=m1.fu from(by5 Mc.fu s.e:)];exact v4,by rw[s.gq];exact v5⟩
 have y':Bn K p t pt (some 0) qq m1/\Kw m1/\m1.fs=1/\FuB t 0 m1.fu/\GqA p pt qq 0 m.gq m1.gq:=by
  rcases y with y|y<;>exact y
 obtain⟨v1,v2,v3,v4,v5⟩:=y';refine⟨v1.bo.cb.ok,v1.bo.cb.rx,?_⟩;rw[e2];have a0:AkL p pt qq 0 0 (r++m.gq):=by rw[hc];trivial
 obtain⟨g1,g2⟩:=a0.gq (k:=0) (bn7 _) (bn7 _) v5;have et:tm (some 0)=tm none+28:=rfl;have L:Lx K p t pt qq 0 0 0 1 r true m1:=⟨by rw[hc]at g2;exact g2,bo1 ⟨0,v1,v2,bn7 _,bp3 _,fun _=>⟨v3,v4⟩,bo1 ⟨rfl,by have:dl 0=0:=rfl;omega⟩,g1⟩⟩;exact L.ac po hb F.hx a2 F.bn.bo.pb (fun _=>(bd7 hb).1) (fun x hx=>absurd hx (by simp)) (by rw[bJ8 a4];have:((([]:List ByteArray).length:Nat):Int)=0:=rfl;omega)
theorem bN1{id:Int}(po:p.Ok)(ht:t<=90000)(hl:0<=lo/\lo<=2)(hob:p.ob=false)(F:Fq K p t pt none q m h z lo)(a2:Hl p qq 0 h)(a3:h.port<=m.fs)(a4:h.whn<h.now)(a4':h.whn=0)(a5:Kw m)(a6:m.fs<=Qx m z lo+2)(a7:(t:Int)<=tm none+dl (Qx m z lo+1))(hc:r++m.gq=[])(hid:bQ id)(a8:8999<=k):AnG K p k t r m h z lo (blP p id qq pt 0) []:=by
 obtain⟨r1,r2⟩:=bg1 hc;have a5':=a5;obtain⟨y,y1,_⟩:=a5';have e1:=be5 y1;have e2:bse m z lo=Qx m z lo:=be1 y1;have hb:=bd7 (m:=m) (z:=z) hl;have pq:=a2.pq;have hport:=a2.port;have hu:=a2.u16.1;have hw8:=po.w8;have d28:=bF4 hb.2;have a0:AkL p pt qq 0 0 (r++m.gq):=by rw[hc];trivial
 have et:tm (some (0+1))=tm none+28+28:=rfl;have nxl:∀m1,Nx K p t pt 0 qq m.gq m1->Lx K p t pt qq 0 1 0 1 r true m1:=fun m1 y=>(Nx.lx (b:=0) (n:=0) po y a0 (by rw[hc];exact bn7 _) (bn7 _) (by omega) (by omega)).2;refine⟨fun h2=> ?_,_,_,bN4 po hob F.bn ht hu a5 id hid,fun m1 y=>bJ7 po ht hu (by decide) (nxl m1 y) 0 (bp3 _) (by omega) id hid,fun m1 y=> ?_⟩
 ·rw[e2]at h2 ⊢
  have s1:Qx m (lk m) (Qx m z lo+1)=Qx m z lo+1:=by rw[e1,ao8]
  refine .nil (.quiet pt none q (F.lost (by omega) e1 F.hx) ⟨by omega,?_,a4'⟩ (bo3 a5) (by rw[s1];omega) hc);show h.port+((0:Nat):Int)<=m.fs;omega
 have L:Lx K p t pt qq 0 1 0 2 r true m1:=by
  rcases y with y|y
  ·have L:=nxl m1 y
   exact⟨Nat.le_succ_of_le L.1,L.2⟩
  exact y
 refine⟨L.okx.1,L.okx.2,?_⟩;rw[e2];exact L.ac po hb F.hx a2 F.bn.bo.pb (fun _=>(bd7 hb).1) (fun x hx=>absurd hx (by simp)) (by rw[bJ8 a4];have:((([]:List ByteArray).length:Nat):Int)=0:=rfl;omega)
theorem bT0{id:Int}(po:p.Ok)(ht:t<=90000)(hl:0<=lo/\lo<=2)(F:Fq K p t pt (some M) q m h z lo)(a2:Hl p q M h)(a5:Kw m)(a6:m.fs<=Qx m z lo+2)(a7:(t:Int)<=tm (some M)+dl (Qx m z lo+1))(hid:bQ id)(hc:r++m.gq=[])(hk:BkL p q pt M l)(a8:2*(l.length:Int)+2+17*(503-rs h)<=k):AnG K p k t r m h z lo (blP p id q pt M) l:=by
 have a5':=a5;obtain⟨y,y1,_⟩:=a5';have e1:=be5 y1;have e2:bse m z lo=Qx m z lo:=be1 y1;have hb:=bd7 (m:=m) (z:=z) hl;have hu:=a2.u16.1;have hw8:=po.w8;have hML:M<=p.L:=Lo.le F.bn.fe;have d28:=bF4 hb.2;have a0:AkL p pt q M M (r++m.gq):=by rw[hc];trivial
 have et:=bJ2 M;have nxl:∀m1,Nx K p t pt M q m.gq m1->Lx K p t pt q M (M+1) 0 1 r true m1:=fun m1 y=>(Nx.lx (b:=0) (n:=0) po y a0 (by rw[hc];exact bn7 _) (bn7 _) (by omega) (by omega)).2;refine⟨fun h2=> ?_,fun mz=>Nx K p t pt M q m.gq mz,_,(bN5 po F.bn ht hu a5 M hML id hid).mono (fun mz y=> ?_),fun m1 y=>bJ7 po ht hu (by decide) (nxl m1 y) M hML (by omega) id hid,fun m1 y=> ?_⟩
 ·rw[e2]at h2 ⊢
  have s1:Qx m (lk m) (Qx m z lo+1)=Qx m z lo+1:=by rw[e1,ao8]
  exact .blk pt M M q l (F.lost (by omega) e1 F.hx) a2 (bn7 _) (by omega) a5 (by rw[s1];omega) (by rw[s1];exact a7) a0 hk (by rw[hc];have:((([]:List ByteArray).length:Nat):Int)=0:=rfl;omega)
 ·rcases y with⟨e,_⟩|⟨_,y⟩
  ·exact absurd rfl e
  exact y
 have L:Lx K p t pt q M (M+1) 0 2 r true m1:=by
  rcases y with y|y
  ·have L:=nxl m1 y
   exact⟨Nat.le_succ_of_le L.1,L.2⟩
  exact y
 refine⟨L.okx.1,L.okx.2,?_⟩;rw[e2];exact L.ac po hb F.hx a2 F.bn.bo.pb (fun _=>(bd7 hb).1) hk (by omega)
theorem bR7(po:p.Ok)(ht:t<=90000)(hl:0<=lo/\lo<=2)(F:Fq K p t pt (some M) q m h z lo)(a2:Hl p q s0 h)(a3:s0<=M)(a4:M<=s0+p.w)(a5:Kw m)(a6:m.fs<=Qx m z lo+1)(a7:(t:Int)<=tm (some M)+dl (Qx m z lo))(a8:AkL p pt q M s0 (r++m.gq))(a9:BkL p q pt s0 (a::l))(a10:((r++m.gq).length:Int)+2*(((a::l).length:Nat):Int)+17*(503-rs h)<=k):AnG K p k t r m h z lo a l:=by
 have a5':=a5;obtain⟨y,y1,_⟩:=a5';have e1:=be5 y1;have e2:bse m z lo=Qx m z lo:=be1 y1;have hb:=bd7 (m:=m) (z:=z) hl;have hu:=a2.u16.1;have hla:(((a::l).length:Nat):Int)=(l.length:Int)+1:=by rw[bn5];omega
 rw[hla]at a10;obtain⟨idx,jx,b1,b2,b3,b4⟩:=a9 a (List.mem_cons_self);have s1:Qx m (lk m) (Qx m z lo+1)=Qx m z lo+1:=by rw[e1,ao8]
 have dm:=bf2 (f:=Qx m z lo) (f':=Qx m z lo+1) (by omega);have X:Lx K p t pt q s0 M (Qx m z lo) (r++m.gq).length r false m:=⟨bn7 _,bo1 ⟨M,F.bn,a5,a3,a4,fun e=>(by cases e),bo1 ⟨rfl,a7⟩,a8⟩⟩;rw[b4];refine⟨fun h2=> ?_,_,_,bJ7 po ht hu (by omega) X jx b2 b3 idx b1,fun m1 y=>bJ7 po ht hu (by omega) y jx b2 b3 idx b1,fun m1 y=> ?_⟩
 ·rw[e2]at h2 ⊢
  exact .blk pt M s0 q l (F.lost (by omega) e1 F.hx) a2 a3 a4 a5 (by rw[s1];omega) (by rw[s1];omega) a8 a9.tail (by omega)
 have L:Lx K p t pt q s0 M (Qx m z lo) ((r++m.gq).length+1+1) r true m1:=by
  rcases y with y|y
  ·exact⟨Nat.le_succ_of_le y.1,y.2⟩
  exact y
 refine⟨L.okx.1,L.okx.2,?_⟩;rw[e2];refine L.ac po hb F.hx a2 F.bn.bo.pb (fun y=> ?_) a9.tail (by omega);rw[bN6 F.bn y,e1,ao8];exact ah _
theorem bS7(po:p.Ok)(a1:Dq p m)(hx:Hx p h)(a2:Hl p q s0 h)(a3:s0<=p.L+1)(a4:p.L+1<=s0+p.w)(hpt:1024<=pt/\pt<=61023)(a8:AkL p pt q (p.L+1) s0 (r++m.gq))(a9:BkL p q pt s0 (a::l))(a10:((r++m.gq).length:Int)+2*(((a::l).length:Nat):Int)+17*(503-rs h)<=k):AnG K p k t r m h z lo a l:=by
 have hla:(((a::l).length:Nat):Int)=(l.length:Int)+1:=by rw[bn5];omega
 rw[hla]at a10;have fin:∀(m1:Mc) (z':Lz) (lo':Int),Dq p m1->m1.gq=m.gq->Ac K p k t (r++m1.gq) m1 h z' lo' l:=fun m1 z' lo' d e=>.fin pt s0 q l d hx a2 a3 a4 hpt (by rw[e];exact a8) a9.tail (by rw[e];omega);exact⟨fun _=>fin m _ _ a1 rfl,fun mz=>Dq p mz/\mz.gq=m.gq,fun mz=>Dq p mz/\mz.gq=m.gq,bF3 a1,fun m1 y=>(bF3 y.1).mono (fun mz s=>⟨s.1,s.2.trans y.2⟩),fun m1 y=>by
  have y':Dq p m1/\m1.gq=m.gq:=by rcases y with y|y<;>exact y
  exact⟨y'.1.ok,y'.1.rx,fin m1 _ _ y'.1 y'.2⟩⟩
theorem bM0(po:p.Ok)(k t:Nat)(r:List ByteArray)(m:Mc)(h:Host)(z:Lz)(lo:Int)(a:ByteArray)(l:List ByteArray)(A:AB K p k t r m h z lo (a::l)):(bse m z lo<2->AB K p k t r m h (lk m) (bse m z lo+1) l)/\m.cq.length+1<m.rx/\bd9 (Tk K) (m.put a) (fun mz=>AB K p k t r mz h (lk m) (bse m z lo) l)/\bd9 (Tk K) ((m.put a).put a) (fun mz=>AB K p k t r mz h (lk m) (bse m z lo) l):=by
 obtain⟨hl,hq,ho,hr,hn,ht,A⟩:=A;have hbse:=bg2 (m:=m) (z:=z) hl;have fin:AnG K p k (t+1) r m h z lo a l->(bse m z lo<2->AB K p k t r m h (lk m) (bse m z lo+1) l)/\m.cq.length+1<m.rx/\bd9 (Tk K) (m.put a) (fun mz=>AB K p k t r mz h (lk m) (bse m z lo) l)/\bd9 (Tk K) ((m.put a).put a) (fun mz=>AB K p k t r mz h (lk m) (bse m z lo) l):=by
  rintro ⟨e1,Z1,Z2,e2,e3,e4⟩;refine⟨fun h2=>⟨by omega,hq,ho,hr,hn,ht,e1 h2⟩,by rw[hq,hr];decide,bg5 (bM2 ho hq hr e2) (fun mz y=> ?_),bg5 (bK3 ho hq hr e2 e3 (fun m1 y=>⟨(e4 m1 (bo1 y)).1,(e4 m1 (bo1 y)).2.1⟩)) (fun mz y=> ?_)⟩
  ·obtain⟨w1,w2,w3⟩:=e4 mz (bo1 y.1)
   exact⟨hbse,y.2,w1,w2,hn,ht,w3⟩
  obtain⟨w1,w2,w3⟩:=e4 mz (bo3 y.1);exact⟨hbse,y.2,w1,w2,hn,ht,w3⟩
 apply fin;have ht2:t+1<=90000:=by omega
 generalize hal:a::l=al at A;generalize hcc:r++m.gq=cc at A
 cases A with
 |nil j=>cases hal
 |off h0 a1 a2 a3 a4 a5 a6 a7 a8 a9 a10=>
  obtain⟨e1,e2⟩:=ae hal;rw[e1,e2];exact bS5 po ht2 a1 a2 a3 a4 a5 a6 a7 a8 (hcc.trans a9) a10 hl
 |ack h0 a1 b1 b2 a2 a3 a4 a5 a6 a7 a8 a9 a10=>
  obtain⟨e1,e2⟩:=ae hal;rw[e1,e2];exact bS9 po a1 b1 b2 a2 a3 a4 a5 a6 a7 a8 (hcc.trans a9) a10
 |tell pt j q a0 a1 a2 a3 a4 a5 a6 a7 a8 a9 a10 a11=>
  obtain⟨e1,e2⟩:=ae hal;rw[e1,e2];exact bQ2 hl a1 a2 a3 a4 a5 a6 a7 a8 a9 (hcc.trans a10) a11
 |bT1 pt q qq id a1 a2 a3 a4 a5 a6 a7 a8 a9 a10 a11 a12=>
  obtain⟨e1,e2⟩:=ae hal;rw[e1,e2];exact bP6 po ht2 hl a1 a2 a3 a4 a5 a6 a7 a8 a9 (hcc.trans a10) a11 a12
 |first pt q qq id a1 a2 a3 a4 a5 a6 a7 a8 a9 a10 a11 a12=>
  obtain⟨e1,e2⟩:=ae hal;rw[e1,e2];exact bN1 po ht2 hl a1 a2 a3 a4 a5 a6 a7 a8 a9 (hcc.trans a10) a11 a12
 |hot pt M q id l' a1 a2 a3 a4 a5 a6 a7 a8 a9 a10=>
  obtain⟨e1,e2⟩:=ae hal;rw[e1,e2];exact bT0 po ht2 hl a1 a2 a3 a4 a5 a6 (hcc.trans a7) a8 a10
 |blk pt M s0 q l' a1 a2 a3 a4 a5 a6 a7 a8 a9 a10=>
  subst hal hcc;exact bR7 po ht2 hl a1 a2 a3 a4 a5 a6 a7 a8 a9 a10
 |fin pt s0 q l' a1 a2 a3 a4 a5 a6 a7 a8 a9=>
  subst hal hcc;exact bS7 po a1 a2 a3 a4 a5 a6 a7 a8 a9
theorem bN8(po:p.Ok):bU7 K 20000 (fun t m h z lo=>IB K p t m h z lo) (fun k t q m h z lo=>JB K p k t q m h z lo) (fun k t r m h z lo l=>AB K p k t r m h z lo l) where
 tick:=fun t m h z lo _ I=>bK6 po m h z lo I
 frame:=fun k t f r m h z lo J=>bH6 po k t f r m h z lo J
 ans:=fun k t r m h z lo a l A=>bM0 po k t r m h z lo a l A
 all:=fun k t r m h z lo A=>⟨A.1,A.2.1,A.2.2.1,A.2.2.2.1,A.2.2.2.2.1,A.2.2.2.2.2.1,A.2.2.2.2.2.2.all⟩
 more:=fun k t m h z lo J=>⟨k,bn7 _,J.1,J.2.1,bf8 J.2.2.1,J.2.2.2.1,J.2.2.2.2.1,J.2.2.2.2.2.1,by
  rw[Xi,br8];have q:=J.2.2.2.2.2.2;rw[bw8]at q;exact q.same (bG1 m) (bf8 J.2.2.1) rfl⟩
 done:=fun k t m h z lo J hg=>by
  have q:=J.2.2.2.2.2.2
  rw[hg]at q
  rcases q.rest po J.1 rfl with e|⟨e1,e2,e3,e4⟩
  ·exact bo1 e
  exact bo3 ⟨e1,e2,by omega,J.1,J.2.1,hg,by omega,J.2.2.2.2.1,bo3 ⟨by omega,e4⟩⟩
 low:=fun t m h z lo I=>I.1.1
 bU5:=fun k t q m h z lo J=>J.1.1
 bV2:=fun k t q m h z lo l A=>A.1.1
end Ho
namespace Ho
open Bs Js
theorem bI1(n:Nat)(hn:n<=1000000)(seed:Int)(w:fV):
  f_ Vh 7 #[.int .i64 n,.int .i64 seed] w fun e w'=>∃l:List UInt8,l.length=n/\e=.returned (.string ⟨l.toArray⟩)/\gm w.heap.size w w':=by
 obtain⟨i0,hi,hz0,hz1,hz2⟩:=ol tu;obtain⟨M,hM⟩:=ex_ (madeCells #[Value.int .u8 0] n);have hMl:M.toList=gY (List.replicate n 0):=by
  rw[hM,bg4];unfold gY;rw[List.map_replicate];rfl
 have hmk:∀u:fV,(Instr.makeSlice 73 (.int .i64 (n:Int)) (.int .i64 (n:Int))).run Vh u=.ok (.slice (some (a_ u.heap.size 0)) n n) (u.alloc (.cells M 5)):=fun u=>by
  have h:=run_make (P:=Vh) u 73 5 i0 (.int .u8 0) br3 hi hz0 .i64 .i64 (n:Int) (n:Int) (by omega) (ah _) (by rw[hz2];omega) (by omega);rw[hM];simpa[hz1,Value.cells]using h
 have HS:Hid (∃L:List UInt8,L.length=n/\gm w.heap.size w (w.alloc (.cells M 5))/\(w.alloc (.cells M 5)).heap[w.heap.size]?=some (.cells (gY L).toArray 5 (0,0))):=Fe ⟨List.replicate n 0,by simp,(bn9 _ _).alloc (bn7 _) _,by rw[<-hMl];exact bn3 w _⟩;clear hM hMl;go_enter func7,ntmps7;go_wp2;go_loopw [11] (fun i wr=>∃k:Nat,k<=n/\i=.int .i64 k/\Hid (∃L:List UInt8,L.length=n/\gm w.heap.size w wr/\wr.heap[w.heap.size]?=some (.cells (gY L).toArray 5 (0,0)))) (fun i _=>n-(intOf i).toNat)
 case atStart=>exact⟨0,bp3 _,rfl,HS⟩
 obtain⟨k,hk,rfl,HL⟩:=hrel;rename fV=>wr;clear HS
 by_cases hlt:k<n
 ·have hki:(k:Int)<(n:Int):=by omega
  obtain⟨L,hL,hb,hr⟩:=gB HL;have hkk:(k:Int)*(k:Int)<=1000000*1000000:=Int.mul_le_mul (by omega) (by omega) (by omega) (by omega);have hkk0:0<=(k:Int)*(k:Int):=Int.mul_nonneg (by omega) (by omega);have hc:∃z:Value,wr.cell? (a_ w.heap.size k)=some z:=⟨.int .u8 (L[k]'(by omega)).toNat,by
   rw[bn0 _ _ k _ _ _ hr]
   simp[gY,bq7 (show k<L.length by omega)]⟩
  obtain⟨z,hc⟩:=hc;have hf:wr.frozen? (a_ w.heap.size k)=false:=by simp[World.frozen?,hr]
  have HN:Hid (∀X:Int,0<=X/\X<256->∃L2:List UInt8,L2.length=n/\gm w.heap.size w (wr.setCell (a_ w.heap.size k) (.int .u8 X))/\(wr.setCell (a_ w.heap.size k) (.int .u8 X)).heap[w.heap.size]?=some (.cells (gY L2).toArray 5 (0,0))):=Fe (fun X hX=>by
   refine⟨L.set k (UInt8.ofNat X.toNat),by rw[bz9];exact hL,hb.setCell (bn7 _) _,?_⟩
   have q:=gI wr k (.int .u8 X) hr
   rw[bm7,an6 L k X hX]at q
   exact q)
  clear hL hb hr HL;go_wp2;refine⟨⟨k+1,by omega,by go_num,Fe (HN _ (by omega))⟩,by simp[intOf];omega⟩
 have e:k=n:=by omega
 obtain⟨L,hL,hb,hr⟩:=gB HL;have hcv:=bv8 (P:=Vh) wr 73 9 5 (a_ w.heap.size 0) n L br3 bv4 bs8 (fun j hj=>by
  rw[show(((a_ w.heap.size 0):Addr).add j)=(a_ w.heap.size j)from by unfold Addr.add;split<;>simp_all,bn0 _ _ j _ _ _ hr]
  simp[gY,bq7 hj])
 rw[hL]at hcv;have HR:=Fe (show L.length=n/\gm w.heap.size w wr from⟨hL,hb⟩);clear hL hb hr HL e;have hni: ¬(k:Int)<(n:Int):=by omega
 go_wp2;go_ret;exact⟨L,HR.1,rfl,HR.2⟩
end Ho
namespace Ho
open Bs Js
variable{w0 w w':fV} {P:Nat→Prop} {Q B H G:Nat} {p:Pm} {K:Nat→Nat} {m m' m1 m2 mz:Mc} {h h':Host}
theorem bT3(D:ByteArray)(e:D.data.toList=Hs.Xk K p.s)(bm cg gg:Nat):Sl K p 0 0 (Qb (qg.mk 2 0 0 0 0 42 ⟨#[107,101,114,110,101,108]⟩ 600000 D p.bk p.wn ((16:Nat):Int) ((16:Nat):Int)) bm cg gg):=
 ⟨⟨⟨z0 _ (by decide),z0 _ (by decide),z0 _ (by decide),z0 _ (by decide),z0 _ (by decide),z0 _ (by decide),z0 _ (by decide),z0 _ (by decide),z0 _ (by decide),z0 _ (by decide),z0 _ (by decide),z0 _ (by decide),z0 _ (by decide),z0 _ (by decide),z0 _ (by decide),by show(⟨#[]⟩:ByteArray).size<=262144;decide⟩,rfl,rfl,rfl,rfl,rfl,rfl,rfl,rfl,e,rfl,rfl,rfl,rfl⟩,rfl,rfl,rfl,rfl,rfl⟩
theorem bH9(po:p.Ok):(qg.mk 2 0 0 0 0 42 ⟨#[107,101,114,110,101,108]⟩ 600000 ⟨(Hs.Xk K p.s).toArray⟩ p.bk p.wn ((16:Nat):Int) ((16:Nat):Int)).Good:=by
 have hb:=po.bk;have hw:=po.wn;refine⟨by show nO 2 0 0 0 0 42=true;decide,by show Tf.iM [107,101,114,110,101,108]=true;decide,by show(⟨#[107,101,114,110,101,108]⟩:ByteArray).size<=20;decide,?_,⟨by show(1:Int)<=600000;decide,by show(600000:Int)<=600000;decide⟩,⟨by show(8:Int)<=p.bk;omega,by show(p.bk:Int)<=1024;omega⟩,⟨by show(1:Int)<=p.wn;omega,by show(p.wn:Int)<=8;omega⟩,⟨by show(1:Int)<=((16:Nat):Int);decide,by show((16:Nat):Int)<=16;decide⟩,⟨by show(1:Int)<=((16:Nat):Int);decide,by show((16:Nat):Int)<=16;decide⟩⟩;show(Hs.Xk K p.s).toArray.size=32;rw[bt3,Hs.XV]
theorem bO5{k t:Nat}{z:Lz}{lo:Int}(J:JB K p k t [] m h z lo)(hp:m.phase=3):m.ql=p.s:=by
 have q:=J.2.2.2.2.2.2
 cases q with
 |A_ x a1 a2 a3 a4 a5 a6 a7 a8=>rw[a2.ph]at hp;cases hp
 |said x i a1 a2 a3 a4 a5 a6 a7 a8 a9 a10=>rw[a2.ph]at hp;cases hp
 |pro g a1 a2 a3 a4 a5=>rw[a1.sl.ph]at hp;cases hp
 |quiet pt j q a1 a2 a3 a4 a5=>exact absurd hp a1.bn.fe.np.1
 |wait pt j q a ua a1 a2 a3 a4 a5 a6 a7 a8 a9 a10 a11=>exact absurd hp a1.bn.fe.np.1
 |ask pt j q a a1 a2 a3 a4 a5 a6 a7 a8 a9 a10 a11=>exact absurd hp a1.bn.fe.np.1
 |go pt j q i a1 a2 a3 a4 a5 a6 a7 a8 a9=>exact absurd hp a1.bn.fe.np.1
 |yQ pt M s0 q a1 a2 a3 a4 a5 a6 a7 a8 a9=>exact absurd hp a1.bn.fe.np.1
 |fin pt s0 q a1 a2 a3 a4 a5 a6 a7 a8=>exact a1.img
theorem bV1{n:Nat}(h:16384<n):(16384:Int)<(n:Int):=by omega
theorem bS4{n:Nat}(h: ¬16384<n): ¬(16384:Int)<(n:Int):=by omega
theorem bK8(K:Nat->Nat)(w:fV)(hng:4<=w.heap.size)(hgl:Gl w)(hcd:NA w)(hG:Hs.RG w 3 K)(hK:∀j,K j<4294967296)(tb:Tb w)
  (n seed block window how:Int) (hn: -9223372036854775808<=n/\n<=9223372036854775807) (hb: -9223372036854775808<=block/\block<=9223372036854775807) (hwd: -9223372036854775808<=window/\window<=9223372036854775807) (hh: -9223372036854775808<=how/\how<=9223372036854775807) (la:Option Addr) (nl cl:Nat) (hls:∀u,gm w.heap.size w u->Los u (.slice la nl cl)):
  f_ Vh 3 #[.int .i64 n,.int .i64 seed,.int .i64 block,.int .i64 window,.slice la nl cl,.int .i64 how] w fun ee w'=>ee=.returned (.bool true)/\gm w.heap.size w w':=by
 by_cases hbig:16384<nl
 ·have hbi:=bV1 hbig
  go_enter func3,ntmps3;go_wp2;go_ret;exact⟨rfl,bn9 _ _⟩
 have hbi:=bS4 hbig;have HP1:=Fe (fun u=>Sp.lY n 4000 u hn.1 hn.2 (by decide) (by decide));have HP2:=Fe (fun u=>Sp.lY block 1000 u hb.1 hb.2 (by decide) (by decide));have HP3:=Fe (fun u=>Sp.lY window 8 u hwd.1 hwd.2 (by decide) (by decide));have HP4:=Fe (fun u=>Sp.lY how 4 u hh.1 hh.2 (by decide) (by decide));have HP5:=Fe (fun u=>Sp.lY how 3 u hh.1 hh.2 (by decide) (by decide));have HP6:=Fe (fun u=>Sp.lY how 7 u hh.1 hh.2 (by decide) (by decide));have b1:=Sp.gy n 4000 (by decide);have b2:=Sp.gy block 1000 (by decide);have b3:=Sp.gy window 8 (by decide);have b4:=Sp.gy how 4 (by decide);have b5:=Sp.gy how 3 (by decide);have b6:=Sp.gy how 7 (by decide);generalize Sp.be3 n 4000=c1 at HP1 b1;generalize Sp.be3 block 1000=c2 at HP2 b2;generalize Sp.be3 window 8=c3 at HP3 b3;generalize Sp.be3 how 4=c4 at HP4 b4;generalize Sp.be3 how 3=c5 at HP5 b5;generalize Sp.be3 how 7=c6 at HP6 b6;obtain⟨n1,rfl⟩:∃n1:Nat,c1=n1:=⟨c1.toNat,by omega⟩;have HS:=Fe (fun u=>bI1 n1 (by omega) seed u);obtain⟨bk,hbk⟩:∃bk:Nat,(bk:Int)=8+c2:=⟨(8+c2).toNat,by omega⟩;obtain⟨wn,hwn⟩:∃wn:Nat,(wn:Int)=1+c3:=⟨(1+c3).toNat,by omega⟩;have e2:wrap64 (8+c2)=(bk:Int):=by rw[hbk];exact BL _ (by omega)
 have e3:wrap64 (1+c3)=(wn:Int):=by rw[hwn];exact BL _ (by omega)
 have hbkb:8<=bk/\bk<=1007:=by omega
 have hwnb:1<=wn/\wn<=8:=by omega
 obtain⟨ob,hob⟩:∃ob:Bool,decide (0<c4)=ob:=⟨_,rfl⟩;have HGL:=Fe hgl;have HCD:=Fe hcd;have HG:=Fe hG;have HTB:=Fe tb;have HNG:=Fe hng;have HLS:=Fe hls;have HRR:Hid (∀(u:fV) (Q B H:Nat) (m:Mc) (h:Host),Al w u Q B H m h->Tk K u (iq B m)):=Fe (fun u Q B H m h a=>Tk.aL6 a.bx.mx (tb.below a.bl (bn7 _)) (fun hf=>by
  have h1:=a.uf _ hf
  have h2:=tb.lt
  omega) (hG.below a.bl hG.lt) hK)
 have HCC:Hid (∀u,gm w.heap.size w u->NA u):=Fe (fun u hb=>hcd.below hb);have HB4:=Fe b4;have HB6:=Fe b6;have HN1:Hid (n1<4000):=Fe (by omega);clear hgl hcd hG tb hng hls hbig hbk hwn b1 b2 b3 b4 b5 b6 hn hb hwd hh;go_enter func3,ntmps3;go_wp2_with fail;refine on_ (HP1 _) fun u0 hu=>?_;rw[hu];clear hu u0 HP1;go_wp2_with fail;refine(HS _).mono ?_;rintro ee u1 ⟨l,hl,rfl,hb1⟩;obtain⟨img,himg⟩:∃img:ByteArray,img=⟨l.toArray⟩:=⟨_,rfl⟩;have hil:img.data.toList=l:=by rw[himg]
 rw[<-himg];have HC:Hid (f_ Vh 10 #[.string img,.int .i64 bk,.int .i64 wn] u1 _):=Fe (ak0 img l K bk wn u1 hil (by rw[hl];have:=gB HN1;omega) (HG.below hb1 HG.lt) hK ((ah9 HCD).kept (hb1.block _ (ah9 HCD).lt)));obtain⟨dg,hdg⟩:∃dg:ByteArray,dg=⟨(Hs.Xk K l).toArray⟩:=⟨_,rfl⟩;have HPO:Hid (∀nx,nx=167772161∨nx=3232235529->Pm.Ok ⟨l,bk,wn,nx,ob⟩):=Fe (fun nx h=>⟨by show l.length<4000;rw[hl];exact gB HN1,hbkb,hwnb,h⟩);have HGOOD:=Fe (bH9 (K:=K) (HPO 167772161 (bo1 rfl)));have HGOOD2:Hid ((qg.mk 2 0 0 0 0 42 ⟨#[107,101,114,110,101,108]⟩ 600000 dg (bk:Int) (wn:Int) ((16:Nat):Int) ((16:Nat):Int)).Good):=Fe (by rw[hdg];exact HGOOD);rw[<-hdg]at HC;have HDL:Hid (dg.data.toList=Hs.Xk K l):=Fe (by rw[hdg]);have HIM:=Fe himg;have HB1:=Fe hb1;clear HS hb1 himg hdg hil hl HGOOD;go_wp2_with fail;refine on_ (HP2 _) fun u0 hu=>?_;rw[hu];clear hu u0 HP2;go_wp2_with fail;refine on_ (HP3 _) fun u0 hu=>?_;rw[hu];clear hu u0 HP3;go_wp2_with fail;refine on_ HC fun u2 hb2=>?_;have HB2:=Fe (HB1.trans (hb2.mono HB1.size));clear HB1 hb2 HC;go_wp2_with fail;refine(ae0 2 0 0 0 0 42 _ 600000 dg bk wn 16 16 HGOOD2 _ (bo6 HNG HB2.size) (HGL.below HB2 HNG)).mono ?_;rintro ee u3 ⟨Q,B,bm,cg,gg,rfl,hu3,hq3⟩;have H3:Hid (Bx w (fun _=>False) u3 Q B (Qb (qg.mk 2 0 0 0 0 42 ⟨#[107,101,114,110,101,108]⟩ 600000 dg (bk:Int) (wn:Int) ((16:Nat):Int) ((16:Nat):Int)) bm cg gg)):=Fe ⟨hu3.mx.under HB2 HNG HGL,hu3.row⟩;have HI:Hid (∀nx,Sl K ⟨l,bk,wn,nx,ob⟩ 0 0 (Qb (qg.mk 2 0 0 0 0 42 ⟨#[107,101,114,110,101,108]⟩ 600000 dg (bk:Int) (wn:Int) ((16:Nat):Int) ((16:Nat):Int)) bm cg gg)/\(Qb (qg.mk 2 0 0 0 0 42 ⟨#[107,101,114,110,101,108]⟩ 600000 dg (bk:Int) (wn:Int) ((16:Nat):Int) ((16:Nat):Int)) bm cg gg).gq=[]/\(Qb (qg.mk 2 0 0 0 0 42 ⟨#[107,101,114,110,101,108]⟩ 600000 dg (bk:Int) (wn:Int) ((16:Nat):Int) ((16:Nat):Int)) bm cg gg).cq=[]):=Fe (fun nx=>⟨bT3 (p:=⟨l,bk,wn,nx,ob⟩) dg HDL bm cg gg,rfl,rfl⟩);have HQ:Hid (w.heap.size<=Q):=Fe (bo6 HB2.size hq3);generalize Qb (qg.mk 2 0 0 0 0 42 ⟨#[107,101,114,110,101,108]⟩ 600000 dg (bk:Int) (wn:Int) ((16:Nat):Int) ((16:Nat):Int)) bm cg gg=m0 at*;clear hu3 hq3 HB2 HGOOD2 HDL;go_wp2_with fail;refine on_ (HP4 _) fun u0 hu=>?_;rw[hu];clear hu u0 HP4;obtain⟨H,hH⟩:=ex_ u3.heap.size;obtain⟨U,hU⟩:=ex_ (u3.alloc (.cells #[.string img,.int .u32 4294967295,.int .u32 167772161,.bool ob,.int .u16 0,.int .i64 0,.int .i64 0,.int .i64 0,.int .i64 0,.int .i64 0,.int .i64 0,.int .u16 0] 39));have HAL:Hid (Al w U Q B H m0 ⟨img,4294967295,167772161,ob,0,0,0,0,0,0,0,0⟩):=Fe (by
  have b5:=gB H3
  have b6:=b5.alloc (.cells #[.string img,.int .u32 4294967295,.int .u32 167772161,.bool ob,.int .u16 0,.int .i64 0,.int .i64 0,.int .i64 0,.int .i64 0,.int .i64 0,.int .i64 0,.int .u16 0] 39)
  rw[hU,hH]
  exact⟨b6.base,bn3 u3 _,⟨b6.mx.os,b6.mx.tape,b6.mx.output,b6.mx.size,fun k hk=>b6.mx.kept k hk (fun f=>f)⟩,HNG,HQ,b5.mx.size,fun k hk=>(b6.mx.own k hk).resolve_left (fun f=>f)⟩)
 clear H3;go_wp2_with fail;rw[<-hU,<-hH];clear hU hH;refine on_ (HP5 _) fun u0 hu=>?_;rw[hu];clear hu u0 HP5;go_upto_if 50 with fail;go_cut [] (fun wc=>Hid (∃nx:Int,(nx=167772161∨nx=3232235529)/\Al w wc Q B H m0 ⟨img,4294967295,nx,ob,0,0,0,0,0,0,0,0⟩));case first=>
  by_cases h0:c5=0
  ·have h1:=Ld h0
   have r2:U.cell? (a_ H 2)=some (.int .u32 167772161):=HAL.ho.cell 2;have f2:=HAL.ho.free 2;have HA2:Hid (Al w (U.setCell (a_ H 2) (.int .u32 3232235529)) Q B H m0 ⟨img,4294967295,3232235529,ob,0,0,0,0,0,0,0,0⟩):=Fe (HAL.host aA (HAL.ho.set 2 _ rfl));clear h0;go_wp2;go_meet;exact Fe ⟨_,bo3 rfl,HA2⟩
  have h1:=Bd h0;clear h0;go_wp2;go_meet;exact Fe ⟨_,bo1 rfl,HAL⟩
 rename fV=>V;obtain⟨nx,hnx,al⟩:=gB hcut;have HA:=Fe al;have HNX:=Fe hnx;clear hcut HAL al hnx;go_wp2_with fail;refine on_ (HP6 _) fun u0 hu=>?_;rw[hu];clear hu u0 HP6;have HI2:=Fe (HI nx);have HPO2:=Fe (HPO nx HNX);clear HI HPO;have HW:Hid (f_ Vh 11 #[p_ Q,p_ H,.slice la nl cl,.int .i64 c6,.int .i64 20000] V fun ee w'=>ee=.returned (.bool true)/\∃mz,gm w.heap.size w w'/\Bx w' (iq B mz) w' Q B mz/\mz.phase=3/\mz.ql=l):=Fe (by
  refine(bH4 (bN8 (K:=K) HPO2) HRR HCC HA la nl cl HLS c6 (by have:=gB HB6;omega) (bn7 _) (by decide) ?_).mono ?_
  ·exact⟨⟨ah _,by decide⟩,HI2.2.2,HI2.2.1,by decide,rfl,bo1 ⟨rfl,HI2.1,⟨⟨HIM,rfl,rfl,rfl,z0 _ (by decide)⟩,rfl,rfl⟩⟩⟩
  rintro ee w' ⟨rfl,G,n,z,lo,mz,hz,k,t,ab,J,_,hp⟩
  exact⟨rfl,mz,ab.al.bl,ab.al.bx,hp,bO5 J hp⟩)
 clear HI2 HPO2 HA HNX HLS HRR HCC HG HTB HCD;go_wp2_with fail;refine on_ HW ?_;rintro u4 ⟨mz,hb4,hx4,hp4,hi4⟩;have HG4:=Fe (aD8 hx4 hp4 img (by rw[hi4];exact HIM));have HB4':=Fe hb4;clear hb4 hx4 hp4 hi4 HW;go_wp2_with fail;refine on_ HG4 fun u5 hb5=>?_;have HB5:=Fe (HB4'.trans (hb5.mono HB4'.size));clear HG4 hb5 HB4';go_wp2;go_ret;exact⟨rfl,HB5⟩
end Ho
namespace Op
open Bs
section
variable{H:Type} {P:Program}
end
variable{H:Type} {enc:TypeId×Value→H} {w:fV} {base:Nat} {spare:Nat→Bool} {held:Bool} {fuel:Nat} {cs:List Value} {x:DataW H×List MemPlace}
theorem bL1{a:Addr}{v:Value}(h:w.cell? a=some v):a.spot=none:=by
 cases hs:a.spot with
 |none=>rfl
 |some s=>
  unfold World.cell? at h
  split at h
  ·simp[hs]at h
  cases h
end Op
end Go.Proofs.YtdgacidndknceaaGreatDoor
