import Derived.Test.YtdgacidndknceaaGreatDoorMg09
import Derived.Test.YtdgacidndknceaaGreatDoorMg15
set_option linter.all false
set_option maxHeartbeats 4000000
set_option maxRecDepth 10000
open Go.ChangeShapes Go.WideShapes Go.ChangeAt Go.RowKit
open Go renaming World → fV, Calls → f_
open Go.RowKit renaming Below → gm
open Go.Proofs.Tryz renaming prog → Vh
open Go.Proofs.Tryz
namespace Go.Proofs.YtdgacidndknceaaGreatDoor
namespace Js
open Bs
open Dh (gU)
variable{K:Nat→Nat} {m m' m'' mz:Mc}
def eD(a:Int)(l:ByteArray):Prop:=∃id ta ld,l=Ip.Db id 64 17 a ta ld/\(0<=id/\id<=65535)/\(0<=ta/\ta<=4294967295)/\ld.size<=1480
def aV(a:Int)(l:ByteArray):Prop:=l=⟨#[]⟩∨eD a l
def cZ(c:List UInt8)(a:Int)(o:ByteArray):Prop:=∃t ty ld,o=og.ni (t++c) ty ld/\t.length=6/\ld.size<=1500/\(ty=2054∨ty=2048/\(eD 0 ld∨eD a ld))
structure Inv (K:Nat->Nat) (m:Mc):Prop where
 ok:m.Ok
 port:0<=m.port/\m.port<=65535
 Wl:0<=m.Wl/\m.Wl<=65535
 TE:0<=m.TE/\m.TE<=65535
 bE:Cd (fun n=>aV m.iB n.load) m.cd
 low:m.st<4->m.cd=.map []/\(m.phase=0∨m.phase=4)
 img:(m.ql.length:Int)<=m.cap
 gQ:m.phase=3->m.gQ.data.toList=Hs.Xk K m.ql
 cap:0<=m.cap/\m.cap<=1048576
 st:0<=m.st/\m.st<=6
structure VV (m m':Mc):Prop where
 card:m'.card=m.card
 cap:m'.cap=m.cap
 gQ:m'.gQ=m.gQ
 name:m'.name=m.name
 blk:m'.blk=m.blk
 win:m'.win=m.win
 cq:m'.cq=m.cq
structure Step (K:Nat->Nat) (m m':Mc):Prop where
 inv:Inv K m'
 out:∃q,m'.gq=m.gq++q/\∀o ∈ q,cZ m.card m.addr o
 addr:m'.addr=0∨m'.addr=m.addr
 fix:VV m m'
theorem VV.refl(m:Mc):VV m m:=⟨rfl,rfl,rfl,rfl,rfl,rfl,rfl⟩
theorem VV.trans(h:VV m m')(k:VV m' m''):VV m m'':=⟨k.card.trans h.card,k.cap.trans h.cap,k.gQ.trans h.gQ,k.name.trans h.name,k.blk.trans h.blk,k.win.trans h.win,k.cq.trans h.cq⟩
theorem cZ.mono{c:List UInt8}{a b:Int}{o:ByteArray}(h:cZ c a o)(e:a=0∨a=b):cZ c b o:=by
 obtain⟨t,ty,ld,h1,h2,h3,h4⟩:=h;refine⟨t,ty,ld,h1,h2,h3,?_⟩
 rcases h4 with h4|⟨h4,h5|h5⟩
 ·exact aT2 h4
 ·exact aT7 ⟨h4,aT2 h5⟩
 rcases e with rfl|rfl
 ·exact aT7 ⟨h4,aT2 h5⟩
 exact aT7 ⟨h4,aT7 h5⟩
theorem Step.refl(h:Inv K m):Step K m m:=⟨h,⟨[],by simp,by simp⟩,aT7 rfl,VV.refl m⟩
theorem Step.trans(h:Step K m m')(k:Step K m' m''):Step K m m'':=by
 obtain⟨q,h1,h2⟩:=h.out;obtain⟨q',k1,k2⟩:=k.out;refine⟨k.inv,⟨q++q',by rw[k1,h1,aV1],fun o ho=> ?_⟩,?_,h.fix.trans k.fix⟩
 ·rcases dV.1 ho with ho|ho
  ·exact h2 o ho
  have r:=k2 o ho;rw[h.fix.card]at r;exact r.mono h.addr
 rcases k.addr with e|e
 ·exact aT2 e
 rcases h.addr with e2|e2
 ·exact aT2 (e.trans e2)
 exact aT7 (e.trans e2)
theorem Step.quiet(i:Inv K m')(g:m'.gq=m.gq)(a:m'.addr=0∨m'.addr=m.addr)(f:VV m m'):Step K m m':=⟨i,⟨[],by simp[g],by simp⟩,a,f⟩
theorem Inv.sent(h:Inv K m)(s:ByteArray):Inv K (m.sent s):=by
 have o:=h.ok.sent s;unfold Mc.sent at o ⊢
 split
 ·rename_i e;rw[aU0 e]at o;exact⟨o,h.port,h.Wl,h.TE,h.bE,h.low,h.img,h.gQ,h.cap,h.st⟩
 rename_i e;rw[aT4 e]at o;exact⟨o,h.port,h.Wl,h.TE,h.bE,h.low,h.img,h.gQ,h.cap,h.st⟩
theorem Vj(m:Mc)(s:ByteArray):(m.sent s).addr=m.addr:=by unfold Mc.sent;split<;>rfl
theorem Step.sent(h:Inv K m){o:ByteArray}(hf:cZ m.card m.addr o):Step K m (m.sent o):=by
 refine⟨h.sent o,?_,aT7 (Vj m o),?_⟩
 ·unfold Mc.sent
  split
  ·exact⟨[],by simp,by simp⟩
  exact⟨[o],rfl,fun x hx=>by simp at hx;subst hx;exact hf⟩
 unfold Mc.sent
 split<;>exact⟨rfl,rfl,rfl,rfl,rfl,rfl,rfl⟩
theorem Step.Ww(h:Inv K m):Step K m m.Ww:=by
 refine .quiet ⟨?_,h.port,h.Wl,h.TE,h.bE,h.low,h.img,h.gQ,h.cap,h.st⟩ rfl (aT7 rfl) ⟨rfl,rfl,rfl,rfl,rfl,rfl,rfl⟩;exact h.ok.Ww
theorem Step.bn(h:Inv K m){D:DataW Unit}(hD:Cd (fun n=>aV m.iB n.load) D)(hst:4<=m.st):Step K m (m.bn D):=by
 refine .quiet ⟨?_,h.port,h.Wl,h.TE,hD,fun e=>absurd e (by show ¬m.st<4;omega),h.img,h.gQ,h.cap,h.st⟩ rfl (aT7 rfl) ⟨rfl,rfl,rfl,rfl,rfl,rfl,rfl⟩;have o:=h.ok
 cases o;constructor<;>assumption
theorem Step.aH2(h:Inv K m)(a:Int):Step K m (m.aH2 a):=.sent h ⟨_,2054,_,rfl,rfl,Cq _ _ rfl _ _ rfl _,aT2 rfl⟩
theorem bz(h:Inv K m){ta f t:Int}{load:ByteArray}(hta:0<=ta/\ta<=4294967295):eD m.addr (m.lD ta f t load):=⟨_,_,_,rfl,h.ok.id,hta,WI _ _ _ _ _⟩
theorem eD.size{a:Int}{l:ByteArray}(h:eD a l):l.size<=1500:=by
 obtain⟨id,ta,ld,rfl,_,_,hl⟩:=h;unfold Ip.Db;rw[aT4 (by decide),aU0 hl];show(Ip.Ls _ _ _ _ _ _).toArray.size<=_;rw[aZ9,Ip.Ls,aS9,Ip.jY,jc];omega
theorem dB:(0:Int)<=0/\(0:Int)<=65535:=by decide
theorem z32:(0:Int)<=0/\(0:Int)<=4294967295:=by decide
theorem z6:(0:Int)<=0/\(0:Int)<=6:=by decide
theorem z4:(0:Int)<=0/\(0:Int)<=4:=by decide
theorem bl3:(0:Int)<=4294967295/\(4294967295:Int)<=4294967295:=by decide
theorem aJ(hst:4<=m.st):m.addr=m.iB:=by unfold Mc.addr;rw[aT4 (by omega)]
theorem Step.bm4(h:Inv K m)(hst:4<=m.st){ta f t:Int}{load:ByteArray}(hta:0<=ta/\ta<=4294967295)(hz:VO (aV m.iB) m ta f t load mz):Step K m mz:=by
 rcases hz with⟨D,hD,rfl⟩|⟨x,rfl⟩|⟨D,hD,rfl⟩
 ·exact((Step.Ww h).trans (.bn (Step.Ww h).inv hD hst)).trans (.aH2 (Step.bn (Step.Ww h).inv hD hst).inv _)
 ·exact(Step.Ww h).trans (.sent (Step.Ww h).inv ⟨_,2048,_,rfl,rfl,(bz h hta).size,aT7 ⟨rfl,aT7 (bz h hta)⟩⟩)
 exact(Step.Ww h).trans (.bn (Step.Ww h).inv hD hst)
theorem Step.say(h:Inv K m)(kb:UInt8)(os:gU):Step K m (m.say kb os):=
 (Step.Ww h).trans (.sent (Step.Ww h).inv ⟨_,2048,_,rfl,rfl,(bz h bl3).size,aT7 ⟨rfl,aT7 (bz h bl3)⟩⟩)
theorem Step.drop(h:Inv K m)(b:Nat):Step K m (m.drop.at b):=by
 refine .quiet ⟨?_,dB,dB,dB,Cd.nil _,fun _=>⟨rfl,aT2 rfl⟩,h.cap.1,(fun e=>by cases e),h.cap,z6⟩ rfl (aT2 rfl) ⟨rfl,rfl,rfl,rfl,rfl,rfl,rfl⟩;have o:=h.ok;exact⟨o.draw,o.id,z32,z32,z32,z4,z32,z32,z32,z32,z32,z32,z4,dB,dB,aV3 _⟩
theorem Step.fail(h:Inv K m)(b:Nat):Step K m (m.fail.at b):=by
 have o:=h.ok;unfold Mc.fail
 split
 ·refine .quiet ⟨?_,dB,dB,dB,Cd.nil _,fun _=>⟨rfl,aT7 rfl⟩,h.cap.1,(fun e=>by cases e),h.cap,z6⟩ rfl (aT2 rfl) ⟨rfl,rfl,rfl,rfl,rfl,rfl,rfl⟩
  exact⟨o.draw,o.id,z32,z32,z32,z4,z32,z32,z32,z32,z32,z32,z4,dB,dB,aV3 _⟩
 refine .quiet ⟨?_,dB,dB,dB,Cd.nil _,fun _=>⟨rfl,aT2 rfl⟩,h.cap.1,(fun e=>by cases e),h.cap,z6⟩ rfl (aT2 rfl) ⟨rfl,rfl,rfl,rfl,rfl,rfl,rfl⟩;exact⟨o.draw,o.id,z32,z32,z32,z4,z32,z32,z32,z32,z32,z32,z4,dB,dB,aV3 _⟩
end Js
namespace Js
open Bs
variable{K:Nat→Nat} {w0:fV} {P:Nat→Prop} {w w':fV} {B:Nat} {m m':Mc}
theorem bk0{b n cp:Nat}{ao:Option Addr}{ks:List Int}(h:w.ownsRow b 36 1 (.slice ao n cp) n (ks.map (Value.int .u32))){i:Nat}(hi:i<n):∃g x,ao=some (a_ g 0)/\x ∈ ks/\w.cell? (a_ g i)=some (.int .u32 x):=by
 rcases h.2 with⟨_,h2⟩|⟨g,cap,cur,e1,e2,e3,e4,e5,e6,e7⟩
 ·omega
 injection e1 with a1 a2 a3
 have hl:ks.length=n:=by simpa using h.1
 refine⟨g,ks[i]'(by omega),a1,aZ6 _,?_⟩;rw[aS3 w _ i _ _ _ e3];have q:(cur.toList.take n)[i]?=(ks.map (Value.int .u32))[i]?:=by rw[bg5]at e7;rw[e7]
 rw[ak hi]at q;rw[<-ba0,q];simp[show i<ks.length by omega]
theorem VE(m:Mc)(D:DataW Unit)(a:Int)(k:Nat):iq B ((m.bn D).aH2 a) k↔iq B m k:=by
 unfold Mc.aH2 Mc.send Mc.sent
 split<;>exact Iff.rfl
theorem bk5(m:Mc)(D:DataW Unit)(a:Int):((m.bn D).aH2 a).st=m.st:=by
 unfold Mc.aH2 Mc.send Mc.sent
 split<;>rfl
theorem Cd.all{Q:Nb->Prop}{D:DataW Unit}(h:Cd Q D)(h0:Q bC)(a:Int):∃n:Nb,D.atKey (.int .u32 a) bC.d=n.d/\Q n:=by
 cases hh:Maps.has D (.int .u32 a)with
 |true=>exact h a hh
 |false=>exact⟨bC,Maps.atKey_of_not_has hh _,h0⟩
theorem bS(h:Mx w0 P w B m)(hi:Inv K m)(hst:4<=m.st):f_ Vh 49 #[p_ B] w fun ee w'=>ee=.returned (.tuple #[])/\∃mz,(Step K m mz/\4<=mz.st)/\Mx w0 P w' B mz:=by
 have HM:=M0 h;have HI:=M0 hi;have c0:=h.c0;have c14:=h.c14;clear h hi;have HF:Hid (∀u,Mx w0 P u B m->f_ Vh 83 #[.map (some m.bm),.int .i64 m.now] u fun ee w'=>ee=.returned (.tuple #[])/\∃D,Cd (fun n=>aV m.iB n.load) D/\Mx w0 P w' B (m.bn D)):=M0 (fun u hu=>(pK m.now hu.map HI.bE).mono (by
  rintro ee u2 ⟨rfl,D,h1,h2,h3⟩
  exact⟨rfl,D,h2,hu.mapped h3 h1⟩))
 go_enter func49,ntmps49;go_wp2;go_region_held3 (fun u=>u.cell? (a_ B 0)=some (.map (some m.bm))/\u.cell? (a_ B 14)=some (.int .i64 m.now)) (go_keep)
  (first|(go_at_call 83;refine(HF _ HM.drew).mono ?_;rintro ee u ⟨rfl,D,hD,h1⟩;have d0:u.cell? (a_ B 0)=some (.map (some m.bm)):=h1.c0;have d14:u.cell? (a_ B 14)=some (.int .i64 m.now):=h1.c14))
 have H1:=M0 h1;have HS1:=M0 (Step.bn HI hD hst);have HU:Hid (∀u2,Mx w0 P u2 B (m.bn D)->f_ Vh 84 #[.map (some m.bm),.int .i64 m.now] u2 fun ee w'=>∃ao cp,∃ks:List Int,ee=.returned (.slice ao ks.length cp)/\(∀x ∈ ks,0<=x/\x<=4294967295)/\ks.length<=4/\w'.ownsRow u2.heap.size 36 1 (.slice ao ks.length cp) ks.length (ks.map (Value.int .u32))/\gm u2.heap.size u2 w'):=M0 (fun u2 hu=>bj7 (D:=D) m.now hu.map hD);clear h1 hD HM c0 c14 HF;go_wp2;go_region_held3 (fun u=>u.cell? (a_ B 0)=some (.map (some m.bm))/\u.cell? (a_ B 14)=some (.int .i64 m.now)) (go_keep)
  (first|(go_at_call 84;refine(HU _ H1.drew).mono ?_;rintro ee u2 ⟨ao,cp,ks,rfl,hx,hk4,hrow,hb2⟩;have h2:=(H1.drew).below hb2;have e0:u2.cell? (a_ B 0)=some (.map (some m.bm)):=h2.c0;have e14:u2.cell? (a_ B 14)=some (.int .i64 m.now):=h2.c14))
 have H2:=M0 h2;obtain⟨b,hb⟩:=ex_ u.heap.size;have HR2:Hid (u2.ownsRow b 36 1 (.slice ao ks.length cp) ks.length (ks.map (Value.int .u32))):=M0 (by rw[hb];exact hrow);have HFT:Hid (∀k,iq B (m.bn D) k->k<b):=M0 (fun k hk=>by rw[hb];exact H1.ik hk);have HX:=M0 hx;clear hrow hx h2 hb2 H1 HU d0 d14 e0 e14 hb;obtain⟨kl,hkl⟩:∃kl:Nat,kl=ks.length:=⟨_,rfl⟩;rw[<-hkl]at HR2 hk4 ⊢;replace hkl:=M0 hkl
 go_wp2;go_loopw [23] (fun i wr=>∃(k:Nat) (mz:Mc),i=.int .i64 k/\k<=kl/\Hid (Step K m mz/\4<=mz.st)/\Hid (Mx w0 P wr B mz)/\Hid (∀k,iq B mz k->k<b)/\Hid (wr.ownsRow b 36 1 (.slice ao kl cp) kl (ks.map (Value.int .u32)))) (fun i _=>kl-(intOf i).toNat)
 case atStart=>exact⟨0,_,rfl,aV3 _,M0 ⟨HS1,hst⟩,H2,HFT,HR2⟩
 clear H2 HFT HR2 HS1;obtain⟨k,mz,rfl,hk,HS,HM,HFT,HR⟩:=hrel;have c0:=HM.c0
 by_cases hkk:k<kl
 ·obtain⟨g,x,rfl,hxm,hcell⟩:=bk0 HR hkk
  have hx:=HX x hxm;obtain⟨y,hy,hq⟩:=HS.1.inv.bE.all (aT2 rfl) x;have hL:=bO HM.map x hx y hy;have HK:=M0 (dF (Q:=fun n=>aV mz.iB n.load) HM.base HS.1.inv.ok hx HS.1.inv.bE y hq);unfold Nb.v at hL HK;have hki:(k:Int)<kl:=by omega
  clear hxm hy hq;go_wp2_with fail;refine on_ HK ?_;rintro u3 ⟨D3,hD3,h3⟩;have HS3:=M0 (HS.1.trans ((Step.bn HS.1.inv hD3 HS.2).trans (.aH2 (Step.bn HS.1.inv hD3 HS.2).inv x)));have H3:=M0 (HM.join h3);have HR3:Hid (u3.ownsRow b 36 1 (.slice (some (a_ g 0)) kl cp) kl (ks.map (Value.int .u32))):=M0 (iN HR (fun j hj=>h3.kept j (HR.lt j hj).2 (fun hf=>by
   have h1:=HFT j hf
   have h2:=(HR.lt j hj).1
   omega)))
  clear h3 hD3 HK hL hcell c0;go_wp2;go_roundw
  case rel=>exact⟨k+1,_,by go_num,by omega,M0 ⟨HS3,by rw[bk5];exact HS.2⟩,H3,M0 (fun j hj=>HFT j ((VE _ _ _ _).1 hj)),HR3⟩
  simp[intOf];omega
 have e:k=kl:=by omega
 subst e;go_wp2;go_end0;exact⟨rfl,mz,HS,HM⟩
end Js
namespace Js
open Bs
variable{K:Nat→Nat} {w0:fV} {P:Nat→Prop} {w w':fV} {B:Nat} {m m' mz:Mc}
def Mc.bD(m:Mc)(s:Int):Mc:={m with st:=s,asked:=m.now}
theorem Step.bD(h:Inv K m)(hst:4<=m.st){s:Int}(hs:4<=s/\s<=6):Step K m (m.bD s):=by
 refine .quiet ⟨?_,h.port,h.Wl,h.TE,h.bE,fun e=>absurd e (by show ¬s<4;omega),h.img,h.gQ,h.cap,⟨by show 0<=s;omega,hs.2⟩⟩ rfl (aT7 ?_) ⟨rfl,rfl,rfl,rfl,rfl,rfl,rfl⟩
 ·have o:=h.ok
  cases o;constructor<;>assumption
 rw[aJ hst,aJ (m:=m.bD s) hs.1];rfl
structure Kp (m mz:Mc):Prop where
 iO:mz.iO=m.iO
 sF:mz.sF=m.sF
 sT:mz.sT=m.sT
 sL:mz.sL=m.sL
 phase:mz.phase=m.phase
 st:mz.st=m.st
 ql:mz.ql=m.ql
 fu:mz.fu=m.fu
 iB:mz.iB=m.iB
 fs:mz.fs=m.fs
theorem vz(m:Mc)(s:ByteArray):Kp m (m.sent s):=by unfold Mc.sent;split<;>exact⟨rfl,rfl,rfl,rfl,rfl,rfl,rfl,rfl,rfl,rfl⟩
theorem bk7{R:ByteArray->Prop}{ta f t:Int}{load:ByteArray}(h:VO R m ta f t load mz):Kp m mz:=by
 rcases h with⟨D,_,rfl⟩|⟨x,rfl⟩|⟨D,_,rfl⟩
 ·have q:=vz (m.Ww.bn D) (og.ni ([255,255,255,255,255,255]++(m.Ww.bn D).card) 2054 ((m.Ww.bn D).ah5 (m.hop ta)))
  exact⟨q.iO,q.sF,q.sT,q.sL,q.phase,q.st,q.ql,q.fu,q.iB,q.fs⟩
 ·have q:=vz m.Ww (og.ni ([x.k0,x.k1,x.k2,x.k3,x.k4,x.k5]++m.Ww.card) 2048 (m.lD ta f t load))
  exact⟨q.iO,q.sF,q.sT,q.sL,q.phase,q.st,q.ql,q.fu,q.iB,q.fs⟩
 exact⟨rfl,rfl,rfl,rfl,rfl,rfl,rfl,rfl,rfl,rfl⟩
theorem bG(h:Mx w0 P w B m)(hi:Inv K m)(hst:4<=m.st)(f t:Int)(load:ByteArray){ta:Int}(hta:0<=ta/\ta<=4294967295)(hF:0<=f/\f<=65535)(hT:0<=t/\t<=65535)(hl:load.size<=262144):
  f_ Vh 143 #[p_ B,.int .u32 ta,.agg (rI f t load)] w fun ee w'=>ee=.returned (.tuple #[])/\∃mz,(Step K m mz/\Kp m mz)/\Mx w0 P w' B mz:=by
 have q:=bz hi (f:=f) (t:=t) (load:=load) hta;rw[aJ hst]at q;refine on_ (zf (R:=aV m.iB) h hi.ok hi.bE ta f t load hta hF hT hl (aT7 q)) ?_;rintro u2 ⟨mz,hz,hu2⟩;exact⟨rfl,mz,⟨.bm4 hi hst hta hz,bk7 hz⟩,hu2⟩
theorem Vm(m:Mc)(kb:UInt8)(os:Dh.gU):(m.qz kb os).size<=262144:=aT9 (af5 _ _ _ _ _ _ _) (by decide)
theorem fC(h:Mx w0 P w B m)(hi:Inv K m)(hst:4<=m.st)(s:Int)(hs:s=5∨s=6):f_ Vh 142 #[p_ B,.int .i64 s] w fun ee w'=>ee=.returned (.tuple #[])/\∃mz,Step K m mz/\Mx w0 P w' B mz:=by
 have HM:=M0 h;have c14:=h.c14;have c28:=h.c28;have nk:=h.nk;have TF:=h.TF;have f25:=h.free 25;have f39:=h.free 39;have h4:4<=(m.bD s).st:=by show 4<=s;omega
 have HSA:=M0 (Step.bD hi hst (s:=s) (by omega));have HA:Hid (Mx w0 P ((w.setCell (a_ B 25) (.int .i64 s)).setCell (a_ B 39) (.int .i64 m.now)) B (m.bD s)):=M0 ((h.TN s).UK m.now);have HY:Hid (∀u,Mx w0 P u B (m.bD s)->f_ Vh 138 #[p_ B,.int .u8 3,.slice none 0 0] u fun ee w'=>ee=.returned (.tuple #[])/\Mx w0 P w' B ((m.bD s).say 3 [])):=M0 (fun u hu=>PT hu HSA.inv.ok 3 (by decide));have HG:Hid (∀u,Mx w0 P u B (m.bD s)->f_ Vh 177 #[p_ B,.int .u8 3,.slice none 0 0] u fun ee w'=>ee=.returned (.agg (rI 68 67 ((m.bD s).qz 3 [])))/\Mx w0 P w' B (m.bD s)):=M0 (fun u hu=>Gx hu HSA.inv.ok 3 (by decide));have HN:Hid (∀u,Mx w0 P u B (m.bD s)->f_ Vh 143 #[p_ B,.int .u32 m.iO,.agg (rI 68 67 ((m.bD s).qz 3 []))] u fun ee w'=>ee=.returned (.tuple #[])/\∃mz,(Step K (m.bD s) mz/\Kp (m.bD s) mz)/\Mx w0 P w' B mz):=M0 (fun u hu=>bG hu HSA.inv h4 68 67 _ hi.ok.iO (by decide) (by decide) (Vm _ _ _));clear h hi
 rcases hs with rfl|rfl
 ·go_enter func142,ntmps142
  go_wp2;obtain⟨X,hX⟩:=ex_ ((w.setCell (a_ B 25) (.int .i64 5)).setCell (a_ B 39) (.int .i64 m.now));rw[<-hX]at HA ⊢;have d28:X.cell? (a_ B 28)=some (.int .u32 m.iO):=HA.c28;clear hX c14 c28 nk TF f25 f39 HM;go_region_held3 (fun u=>u.cell? (a_ B 28)=some (.int .u32 m.iO)) (go_keep)
   (first|(go_at_call 177;refine(HG _ HA.drew).mono ?_;rintro ee u ⟨rfl,h1⟩;have e28:u.cell? (a_ B 28)=some (.int .u32 m.iO):=h1.c28;have H1:=M0 h1;clear h1)|(go_at_call 143;refine(HN _ H1).mono ?_;rintro ee u2 ⟨rfl,mz,hz,h2⟩;have g28:u2.cell? (a_ B 28)=some (.int .u32 m.iO):=(by have q:=h2.c28;rw[hz.2.iO]at q;exact q);have H2:=M0 h2;have HZ:=M0 hz;clear h2 hz))
  go_wp2;go_end0;exact⟨rfl,mz,HSA.trans HZ.1,H2⟩
 go_enter func142,ntmps142;go_wp2_with fail;refine on_ (HY _ HA) fun u2 h2=>?_;have H2:=M0 h2;clear h2;go_wp2;go_end0;exact⟨rfl,_,HSA.trans (.say HSA.inv _ _),H2⟩
theorem dK(h:Mx w0 P w B m)(hi:Inv K m)(hst:4<=m.st):f_ Vh 90 #[p_ B] w fun ee w'=>ee=.returned (.tuple #[])/\∃mz,Step K m mz/\Mx w0 P w' B mz:=by
 have HM:=M0 h;have HI:=M0 hi;have HD:Hid (∀u,Mx w0 P u B m->f_ Vh 141 #[p_ B] u fun ee w'=>ee=.returned (.tuple #[])/\∃mz,Step K m mz/\Mx w0 P w' B mz):=M0 (fun u hu=>(tO hu).mono (by
  rintro ee u2 ⟨rfl,b,h2⟩
  exact⟨rfl,_,.drop hi b,h2⟩))
 have HN:Hid (∀s u,s=5∨s=6->Mx w0 P u B m->f_ Vh 142 #[p_ B,.int .i64 s] u fun ee w'=>ee=.returned (.tuple #[])/\∃mz,Step K m mz/\Mx w0 P w' B mz):=M0 (fun s u hs hu=>fC hu hi hst s hs);have c14:=h.c14;have nk:=h.nk;have c31:=h.c31;have c32:=h.c32;have qd:=h.qd;have c34:=h.c34;have Qu:=h.Qu;have Qw:=h.Qw;have c37:=h.c37;have Qx:=h.Qx;have TF:=h.TF;have hlt:=h.lt;have hB:B≠w.heap.size:=aU4 hlt;have h6:=hi.st.2;have HX:=M0 (h.alloc (.cells (rB m.mask m.yz m.FJ m.ends m.old m.iZ m.over) 109 (0,0)));obtain⟨en,hen⟩:=ex_ m.ends;rw[<-hen]at Qu HX;have h456:m.st=4∨m.st=5∨m.st=6:=by omega
 clear h hi hen h6
 rcases h456 with e|e|e
 all_goals
  rw[e]at nk;clear e
  cases en with
  |false=>
   go_enter func90,ntmps90;go_wp2;go_quiet (fail);go_wp2;go_end0;exact⟨rfl,m,.refl HI,HX.like ⟨rfl,rfl,rfl,rfl⟩⟩
  |true=>
   go_enter func90,ntmps90;go_wp2;go_quiet (fail);go_wp2_with fail;all_goals first
    |(go_at_call 141;refine aV5 (HD _ ?_) ?_;(exact HX.like ⟨rfl,rfl,rfl,rfl⟩);rintro ee u ⟨rfl,mz,hz,h2⟩;have HZ:=M0 hz;have H2:=M0 h2;clear hz h2;go_wp2;go_end0;exact⟨rfl,mz,HZ,H2⟩)
    |(go_at_call 142;refine aV5 (HN _ _ ?_ ?_) ?_;(first|exact aT2 rfl|exact aT7 rfl);(exact HX.like ⟨rfl,rfl,rfl,rfl⟩);rintro ee u ⟨rfl,mz,hz,h2⟩;have HZ:=M0 hz;have H2:=M0 h2;clear hz h2;go_wp2;go_end0;exact⟨rfl,mz,HZ,H2⟩)
    |(go_quiet (fail)
      go_wp2_with fail
      all_goals first
       |(go_at_call 142;refine aV5 (HN _ _ ?_ ?_) ?_;(first|exact aT2 rfl|exact aT7 rfl);(exact HX.like ⟨rfl,rfl,rfl,rfl⟩);rintro ee u ⟨rfl,mz,hz,h2⟩;have HZ:=M0 hz;have H2:=M0 h2;clear hz h2;go_wp2;go_end0;exact⟨rfl,mz,HZ,H2⟩)
       |(go_end0;exact⟨rfl,m,.refl HI,HX.like ⟨rfl,rfl,rfl,rfl⟩⟩))
theorem bL(h:Mx w0 P w B m)(op:Int)(f0 f1 f2 f3 f4 f5:UInt8)(fip t0 t1 t2 t3 t4 t5 tip:Int):f_ Vh 186 #[p_ B,.agg (rE op f0.toNat f1.toNat f2.toNat f3.toNat f4.toNat f5.toNat fip t0 t1 t2 t3 t4 t5 tip)] w fun ee w'=>∃b,ee=.returned (.bool b)/\gm w.heap.size w w':=by
 have HA:=M0 (YO (h.alloc (.cells (rE op f0.toNat f1.toNat f2.toNat f3.toNat f4.toNat f5.toNat fip t0 t1 t2 t3 t4 t5 tip) 87)));clear h
 by_cases h1:op=1
 ·subst h1
  by_cases h2:tip=0
  ·subst h2
   go_enter func186,ntmps186;go_wp2;go_quiet (fail);go_wp2;go_ret;exact⟨_,rfl,below_drewN b1_ _⟩
  have h2b:(tip==0)=false:=by simpa using h2
  go_enter func186,ntmps186;go_wp2;go_quiet (first|(go_at_call 47;exact bd2 (HA _)));go_wp2;go_ret;exact⟨_,rfl,below_drewN b1_ _⟩
 have h1b:(op==1)=false:=by simpa using h1
 go_enter func186,ntmps186;go_wp2;go_quiet (fail);go_wp2;go_ret;exact⟨_,rfl,below_drewN b1_ _⟩
theorem Gr(h:Mx w0 P w B m)(op:Int)(f0 f1 f2 f3 f4 f5:UInt8)(fip t0 t1 t2 t3 t4 t5 tip:Int)(h0:fip=0∨fip≠0/\fip=m.addr):f_ Vh 185 #[p_ B,.agg (rE op f0.toNat f1.toNat f2.toNat f3.toNat f4.toNat f5.toNat fip t0 t1 t2 t3 t4 t5 tip)] w fun ee w'=>ee=.returned (.tuple #[])/\Mx w0 P w' B m:=by
 have HA:=M0 (YO (h.alloc (.cells (rE op f0.toNat f1.toNat f2.toNat f3.toNat f4.toNat f5.toNat fip t0 t1 t2 t3 t4 t5 tip) 87)));have HM:=M0 h;clear h
 rcases h0 with rfl|⟨h0,h1⟩
 ·go_enter func185,ntmps185
  go_wp2;go_quiet (fail);go_wp2;go_returns
  exact⟨rfl,(HM.alloc _).like ⟨rfl,rfl,rfl,rfl⟩⟩
 have hf3:(fip==0)=false:=by simpa using h0
 have hf4:(fip==m.addr)=true:=by simpa using h1
 clear h0 h1;go_enter func185,ntmps185;go_wp2;go_quiet (first|(go_at_call 47;exact bd2 (HA _)));go_wp2;go_returns
 exact⟨rfl,(HM.alloc _).like ⟨rfl,rfl,rfl,rfl⟩⟩
theorem fo{a:Int}{l:ByteArray}(h:aV a l):l.size<=262144:=by
 rcases h with rfl|h
 ·exact aV3 _
 exact aT9 h.size (by decide)
theorem VW{a:Int}{l:ByteArray}(h:eD a l):l.toList.isEmpty=false:=by
 obtain⟨id,ta,ld,rfl,_,_,hl⟩:=h;unfold Ip.Db;rw[aT4 (by decide),aU0 hl,aV2];rfl
theorem R8(h:Mx w0 P w B m)(hi:Inv K m)(hst:4<=m.st)(op:Int)(f0 f1 f2 f3 f4 f5:UInt8)(fip t0 t1 t2 t3 t4 t5 tip:Int)(h0:fip≠0)(h1:fip≠m.addr)(hr:0<=fip/\fip<=4294967295)(x:Nb)(hx:m.cd.atKey (.int .u32 fip) bC.d=x.d)(hq:aV m.iB x.load)(hn:Maps.has m.cd (.int .u32 fip)=true):
  f_ Vh 185 #[p_ B,.agg (rE op f0.toNat f1.toNat f2.toNat f3.toNat f4.toNat f5.toNat fip t0 t1 t2 t3 t4 t5 tip)] w fun ee w'=>ee=.returned (.tuple #[])/\∃mz,Step K m mz/\Mx w0 P w' B mz:=by
 have HA:=M0 (YO (h.alloc (.cells (rE op f0.toNat f1.toNat f2.toNat f3.toNat f4.toNat f5.toNat fip t0 t1 t2 t3 t4 t5 tip) 87)));have HM:=M0 h;have hf3:(fip==0)=false:=by simpa using h0
 have hf4:(fip==m.addr)=false:=by simpa using h1
 have HL:Hid (∀u,Mx w0 P u B m->(Instr.lookup 102 (.map (some m.bm)) (.int .u32 fip) true).run Vh u=.ok (.tuple #[.agg (rF x.asks x.k0.toNat x.k1.toNat x.k2.toNat x.k3.toNat x.k4.toNat x.k5.toNat x.till x.load),.bool true]) u):=M0 (fun u hu=>by have r:=YE (D:=m.cd) hu.map _ hr x hx;rw[hn]at r;exact r);have HK:Hid (∀u,Mx w0 P u B m->f_ Vh 134 #[.map (some m.bm),.int .u32 fip,.agg (rF 0 f0.toNat f1.toNat f2.toNat f3.toNat f4.toNat f5.toNat (IntKind.i64.wrap (m.now+60)) ⟨#[]⟩)] u fun ee w'=>ee=.returned (.tuple #[])/\∃D,Cd (fun n=>aV m.iB n.load) D/\Mx w0 P w' B (m.bn D)/\PU u w' m.bm):=M0 (fun u hu=>by rw[az9];exact bN (Q:=fun n=>aV m.iB n.load) hu hi.bE hr ⟨0,f0,f1,f2,f3,f4,f5,wrap64 (m.now+60),⟨#[]⟩⟩ (aT2 rfl));have HS:Hid (∀D u,Mx w0 P u B (m.bn D)->f_ Vh 174 #[p_ B,.agg (rT f0.toNat f1.toNat f2.toNat f3.toNat f4.toNat f5.toNat),.int .u16 2048,.string x.load] u fun ee w'=>ee=.returned (.tuple #[])/\Mx w0 P w' B ((m.bn D).send [f0,f1,f2,f3,f4,f5] 2048 x.load)):=M0 (fun D u hu=>sP hu f0 f1 f2 f3 f4 f5 2048 x.load (by decide) (by decide) (fo hq));have HQ:=M0 hq;have HI:=M0 hi;have HST:=M0 hst;have HBM:Hid (m.bm<w.heap.size):=M0 (h.ik (aT7 (aT2 rfl)));clear h hr hx hn hq hi hst;go_enter func185,ntmps185;go_wp2;go_quiet (first|(go_at_call 47;exact bd2 (HA _)));go_wp2;obtain⟨v,hv⟩:=ex_ ((w.alloc (.cells (rE op f0.toNat f1.toNat f2.toNat f3.toNat f4.toNat f5.toNat fip t0 t1 t2 t3 t4 t5 tip) 87)).drewN nq);have HV:Hid (Mx w0 P v B m):=M0 (by rw[hv];exact(HM.alloc _).like ⟨rfl,rfl,rfl,rfl⟩);have hrow:v.heap[w.heap.size]?=some (.cells (rE op f0.toNat f1.toNat f2.toNat f3.toNat f4.toNat f5.toNat fip t0 t1 t2 t3 t4 t5 tip) 87 (0,0)):=by rw[hv];exact aS6 w _
 have HRW:=M0 hrow;have c7:v.cell? (a_ w.heap.size 7)=some (.int .u32 fip):=aS3 _ _ 7 _ _ _ hrow;have c0v:v.cell? (a_ B 0)=some (.map (some m.bm)):=HV.c0;have hnv:B≠v.heap.size:=aU4 HV.lt;have hbx:w.heap.size≠v.heap.size:=aU4 (gG hrow);have hbl:w.heap.size<v.heap.size:=gG hrow;have hBl:B<v.heap.size:=HV.lt;rw[<-hv];clear hv HA HM hrow;have hL1:=HL v HV;have hL2:=HL v.drew HV.drew;have hL3:=HL (v.alloc (.cells zF_ 157)) (HV.alloc _);have hL4:=HL (v.alloc (.cells zF_ 157)).drew (HV.alloc _).drew;have c7a:(v.alloc (.cells zF_ 157)).cell? (a_ w.heap.size 7)=some (.int .u32 fip):=(aT6 (aT1 v _ _ hbl)).trans c7;have c0a:(v.alloc (.cells zF_ 157)).cell? (a_ B 0)=some (.map (some m.bm)):=(aT6 (aT1 v _ _ HV.lt)).trans c0v;go_cut [4,5] (fun s4 s5 wc=>s4=(p_ v.heap.size)/\s5=.bool true/\Hid (Mx w0 P wc B m/\wc.heap[v.heap.size]?=some (.cells (rF x.asks x.k0.toNat x.k1.toNat x.k2.toNat x.k3.toNat x.k4.toNat x.k5.toNat x.till x.load) 157 (0,0))/\wc.heap[w.heap.size]?=some (.cells (rE op f0.toNat f1.toNat f2.toNat f3.toNat f4.toNat f5.toNat fip t0 t1 t2 t3 t4 t5 tip) 87 (0,0))));case first=>
  go_region
  all_goals go_wp2
  all_goals go_meet
  all_goals exact⟨rfl,rfl,M0 ⟨(HV.alloc _).like ⟨rfl,rfl,rfl,rfl⟩,aS6 v _,(aT1 v _ _ hbl).trans HRW⟩⟩
 rename fV=>y;obtain⟨rfl,rfl,HC⟩:=hcut;have HY:=M0 HC.1;have HYX:=M0 HC.2.1;have HYA:=M0 HC.2.2;have HNB:Hid (v.heap.size≠m.bm/\w.heap.size≠m.bm):=M0 ⟨fun e=>by have:=HV.ik (aT7 (aT2 e));omega,fun e=>by have:=gB HBM;omega⟩;clear HC HL hL1 hL2 hL3 hL4 c7 c7a c0a c0v HV HRW;go_wp2;go_region_held3 (fun u=>c_ u B 0 (.map (some m.bm))/\c_ u B 14 (.int .i64 m.now)/\c_ u w.heap.size 1 (.int .u8 f0.toNat)/\c_ u w.heap.size 2 (.int .u8 f1.toNat)/\c_ u w.heap.size 3 (.int .u8 f2.toNat)/\c_ u w.heap.size 4 (.int .u8 f3.toNat)/\c_ u w.heap.size 5 (.int .u8 f4.toNat)/\c_ u w.heap.size 6 (.int .u8 f5.toNat)/\c_ u w.heap.size 7 (.int .u32 fip)) (first|exact⟨HY.c0,HY.c14,ad7 HYA⟩|exact⟨HY.drew.c0,HY.drew.c14,ad7 HYA⟩|exact⟨H1.c0,H1.c14,ad7 HR⟩)
  (first|(go_at_call 134;refine(HK _ HY.drew).mono ?_;rintro ee u ⟨rfl,D,hD,h1,t1⟩;have HD:=M0 hD;clear hD;have H1:=M0 h1;have HR:=M0 (t1.cells HYA HNB.2);have HRX:=M0 (t1.cells HYX HNB.1);clear h1 t1))
 have x8:u.cell? (a_ v.heap.size 8)=some (.string x.load):=aS3 _ _ 8 _ _ _ HRX;obtain⟨y1,y2,y3,y4,y5,y6,y7⟩:=ad7 HR;clear HY HYX HYA HK HNB
 rcases gB HQ with hw|hw
 ·rw[hw]at x8
  go_wp2;go_end0;exact⟨rfl,_,.bn HI HD HST,H1⟩
 have hwe:=VW hw;have HFR:=M0 (Step.sent (Step.bn HI HD HST).inv (o:=og.ni ([f0,f1,f2,f3,f4,f5]++m.card) 2048 x.load) ⟨_,2048,_,rfl,rfl,hw.size,aT7 ⟨rfl,aT7 (by rw[aJ (m:=m.bn D) HST];exact hw)⟩⟩);clear hw;go_wp2_with fail;refine on_ (HS _ _ H1) fun u2 h2=>?_;have H2:=M0 h2;clear h2;go_wp2;go_end0;exact⟨rfl,_,(Step.bn HI HD HST).trans HFR,H2⟩
theorem fifteen{u:fV}{g:Nat}{t:TypeId}{a0 a1 a2 a3 a4 a5 a6 a7 a8 a9 a10 a11 a12 a13 a14:Value}(h:u.heap[g]?=some (.cells #[a0,a1,a2,a3,a4,a5,a6,a7,a8,a9,a10,a11,a12,a13,a14] t (0,0))):
  u.cell? (a_ g 0)=some a0/\u.cell? (a_ g 1)=some a1/\u.cell? (a_ g 2)=some a2/\u.cell? (a_ g 3)=some a3/\u.cell? (a_ g 4)=some a4/\u.cell? (a_ g 5)=some a5/\u.cell? (a_ g 6)=some a6/\u.cell? (a_ g 7)=some a7/\u.cell? (a_ g 8)=some a8/\u.cell? (a_ g 9)=some a9/\u.cell? (a_ g 10)=some a10/\u.cell? (a_ g 11)=some a11/\u.cell? (a_ g 12)=some a12/\u.cell? (a_ g 13)=some a13/\u.cell? (a_ g 14)=some a14:=by
 have q:=fun j=>aS3 u g j _ _ _ h;exact⟨q 0,q 1,q 2,q 3,q 4,q 5,q 6,q 7,q 8,q 9,q 10,q 11,q 12,q 13,q 14⟩
theorem xW(h:Mx w0 P w B m)(hi:Inv K m)(hst:4<=m.st)(op:Int)(f0 f1 f2 f3 f4 f5:UInt8)(fip t0 t1 t2 t3 t4 t5 tip:Int)(h0:fip≠0)(h1:fip≠m.addr)(hr:0<=fip/\fip<=4294967295)(hx:m.cd.atKey (.int .u32 fip) bC.d=bC.d)(hn:Maps.has m.cd (.int .u32 fip)=false):
  f_ Vh 185 #[p_ B,.agg (rE op f0.toNat f1.toNat f2.toNat f3.toNat f4.toNat f5.toNat fip t0 t1 t2 t3 t4 t5 tip)] w fun ee w'=>ee=.returned (.tuple #[])/\∃mz,Step K m mz/\Mx w0 P w' B mz:=by
 have HA:=M0 (YO (h.alloc (.cells (rE op f0.toNat f1.toNat f2.toNat f3.toNat f4.toNat f5.toNat fip t0 t1 t2 t3 t4 t5 tip) 87)));have HM:=M0 h;have hf3:(fip==0)=false:=by simpa using h0
 have hf4:(fip==m.addr)=false:=by simpa using h1
 have HL:Hid (∀u,Mx w0 P u B m->(Instr.lookup 102 (.map (some m.bm)) (.int .u32 fip) true).run Vh u=.ok (.tuple #[.agg zF_,.bool false]) u):=M0 (fun u hu=>by have r:=YE (D:=m.cd) hu.map _ hr bC hx;rw[hn]at r;exact r);have HK:Hid (∀u,Mx w0 P u B m->f_ Vh 134 #[.map (some m.bm),.int .u32 fip,.agg (rF 0 f0.toNat f1.toNat f2.toNat f3.toNat f4.toNat f5.toNat (IntKind.i64.wrap (m.now+60)) ⟨#[]⟩)] u fun ee w'=>ee=.returned (.tuple #[])/\∃D,Cd (fun n=>aV m.iB n.load) D/\Mx w0 P w' B (m.bn D)/\PU u w' m.bm):=M0 (fun u hu=>by rw[az9];exact bN (Q:=fun n=>aV m.iB n.load) hu hi.bE hr ⟨0,f0,f1,f2,f3,f4,f5,wrap64 (m.now+60),⟨#[]⟩⟩ (aT2 rfl));have HQ:Hid (∀u,Mx w0 P u B m->f_ Vh 186 #[p_ B,.agg (rE op f0.toNat f1.toNat f2.toNat f3.toNat f4.toNat f5.toNat fip t0 t1 t2 t3 t4 t5 tip)] u fun ee w'=>∃b,ee=.returned (.bool b)/\gm u.heap.size u w'):=M0 (fun u hu=>bL hu op f0 f1 f2 f3 f4 f5 fip t0 t1 t2 t3 t4 t5 tip);have HI:=M0 hi;have HST:=M0 hst;have HBM:Hid (m.bm<w.heap.size):=M0 (h.ik (aT7 (aT2 rfl)));clear h hr hx hn hi hst;go_enter func185,ntmps185;go_wp2;go_quiet (first|(go_at_call 47;exact bd2 (HA _)));go_wp2;obtain⟨v,hv⟩:=ex_ ((w.alloc (.cells (rE op f0.toNat f1.toNat f2.toNat f3.toNat f4.toNat f5.toNat fip t0 t1 t2 t3 t4 t5 tip) 87)).drewN nq);have HV:Hid (Mx w0 P v B m):=M0 (by rw[hv];exact(HM.alloc _).like ⟨rfl,rfl,rfl,rfl⟩);have hrow:v.heap[w.heap.size]?=some (.cells (rE op f0.toNat f1.toNat f2.toNat f3.toNat f4.toNat f5.toNat fip t0 t1 t2 t3 t4 t5 tip) 87 (0,0)):=by rw[hv];exact aS6 w _
 have HRW:=M0 hrow;have c7:v.cell? (a_ w.heap.size 7)=some (.int .u32 fip):=aS3 _ _ 7 _ _ _ hrow;have c0v:v.cell? (a_ B 0)=some (.map (some m.bm)):=HV.c0;have hnv:B≠v.heap.size:=aU4 HV.lt;have hbx:w.heap.size≠v.heap.size:=aU4 (gG hrow);have hbl:w.heap.size<v.heap.size:=gG hrow;have hBl:B<v.heap.size:=HV.lt;rw[<-hv];clear hv HA HM hrow;have hL1:=HL v HV;have hL2:=HL v.drew HV.drew;have hL3:=HL (v.alloc (.cells zF_ 157)) (HV.alloc _);have hL4:=HL (v.alloc (.cells zF_ 157)).drew (HV.alloc _).drew;have c7a:(v.alloc (.cells zF_ 157)).cell? (a_ w.heap.size 7)=some (.int .u32 fip):=(aT6 (aT1 v _ _ hbl)).trans c7;have c0a:(v.alloc (.cells zF_ 157)).cell? (a_ B 0)=some (.map (some m.bm)):=(aT6 (aT1 v _ _ HV.lt)).trans c0v;go_cut [4,5] (fun s4 s5 wc=>s4=(p_ v.heap.size)/\s5=.bool false/\Hid (Mx w0 P wc B m/\wc.heap[v.heap.size]?=some (.cells zF_ 157 (0,0))/\wc.heap[w.heap.size]?=some (.cells (rE op f0.toNat f1.toNat f2.toNat f3.toNat f4.toNat f5.toNat fip t0 t1 t2 t3 t4 t5 tip) 87 (0,0))));case first=>
  go_region
  all_goals go_wp2
  all_goals go_meet
  all_goals exact⟨rfl,rfl,M0 ⟨(HV.alloc _).like ⟨rfl,rfl,rfl,rfl⟩,aS6 v _,(aT1 v _ _ hbl).trans HRW⟩⟩
 rename fV=>y;obtain⟨rfl,rfl,HC⟩:=hcut;have HY:=M0 HC.1;have HYX:=M0 HC.2.1;have HYA:=M0 HC.2.2;have HNB:Hid (v.heap.size≠m.bm/\w.heap.size≠m.bm):=M0 ⟨fun e=>by have:=HV.ik (aT7 (aT2 e));omega,fun e=>by have:=gB HBM;omega⟩;clear HC HL hL1 hL2 hL3 hL4 c7 c7a c0a c0v HV HRW;obtain⟨n0,n1,n2,n3,n4,n5,n6,n7,n8,n9,n10,n11,n12,n13,n14⟩:=fifteen HYA;go_wp2_with fail;refine(HQ _ HY).mono ?_;rintro ee y2 ⟨b,rfl,hb2⟩;replace HYX:=M0 ((hb2.block _ (aT3 HYX)).trans HYX)
 replace HYA:=M0 ((hb2.block _ (aT3 HYA)).trans HYA)
 replace HY:=M0 (HY.below hb2)
 clear hb2 HQ n0 n1 n2 n3 n4 n5 n6 n7 n8 n9 n10 n11 n12 n13 n14
 cases b with
 |false=>
  go_wp2;go_returns
  exact⟨rfl,m,.refl HI,HY⟩
 |true=>
  go_wp2;go_region_held3 (fun u=>c_ u B 0 (.map (some m.bm))/\c_ u B 14 (.int .i64 m.now)/\c_ u w.heap.size 1 (.int .u8 f0.toNat)/\c_ u w.heap.size 2 (.int .u8 f1.toNat)/\c_ u w.heap.size 3 (.int .u8 f2.toNat)/\c_ u w.heap.size 4 (.int .u8 f3.toNat)/\c_ u w.heap.size 5 (.int .u8 f4.toNat)/\c_ u w.heap.size 6 (.int .u8 f5.toNat)/\c_ u w.heap.size 7 (.int .u32 fip)) (first|exact⟨HY.c0,HY.c14,ad7 HYA⟩|exact⟨HY.drew.c0,HY.drew.c14,ad7 HYA⟩|exact⟨H1.c0,H1.c14,ad7 HR⟩)
   (first|(go_at_call 134;refine(HK _ HY.drew).mono ?_;rintro ee u ⟨rfl,D,hD,h1,t1⟩;have HD:=M0 hD;clear hD;have H1:=M0 h1;have HR:=M0 (t1.cells HYA HNB.2);have HRX:=M0 (t1.cells HYX HNB.1);clear h1 t1))
  have x8:u.cell? (a_ v.heap.size 8)=some (.string ⟨#[]⟩):=aS3 _ _ 8 _ _ _ HRX;obtain⟨y1,y2,y3,y4,y5,y6,y7⟩:=ad7 HR;clear HY HYX HYA HK HNB;go_wp2;go_end0;exact⟨rfl,_,.bn HI HD HST,H1⟩
theorem fO(h:Mx w0 P w B m)(hi:Inv K m)(hst:4<=m.st)(op:Int)(f0 f1 f2 f3 f4 f5:UInt8)(fip t0 t1 t2 t3 t4 t5 tip:Int)(hr:0<=fip/\fip<=4294967295):
  f_ Vh 185 #[p_ B,.agg (rE op f0.toNat f1.toNat f2.toNat f3.toNat f4.toNat f5.toNat fip t0 t1 t2 t3 t4 t5 tip)] w fun ee w'=>ee=.returned (.tuple #[])/\∃mz,Step K m mz/\Mx w0 P w' B mz:=by
 by_cases h0:fip=0∨fip≠0/\fip=m.addr
 ·refine on_ (Gr h op f0 f1 f2 f3 f4 f5 fip t0 t1 t2 t3 t4 t5 tip h0) fun u hu=>?_
  exact⟨rfl,m,.refl hi,hu⟩
 have n0:fip≠0:=fun e=>h0 (aT2 e);have n1:fip≠m.addr:=fun e=>h0 (aT7 ⟨n0,e⟩)
 cases hn:Maps.has m.cd (.int .u32 fip)with
 |true=>
  obtain⟨x,hx,hq⟩:=hi.bE fip hn;exact R8 h hi hst op f0 f1 f2 f3 f4 f5 fip t0 t1 t2 t3 t4 t5 tip n0 n1 hr x hx hq hn
 |false=>exact xW h hi hst op f0 f1 f2 f3 f4 f5 fip t0 t1 t2 t3 t4 t5 tip n0 n1 hr (Maps.atKey_of_not_has hn _) hn
def Mc.vH(m:Mc)(f0 f1 f2 f3 f4 f5:UInt8)(fip:Int):ByteArray:=WM.vE 2 m.card m.addr [f0,f1,f2,f3,f4,f5] fip
def Mc.tell(m:Mc)(f0 f1 f2 f3 f4 f5:UInt8)(fip:Int):Mc:=m.send [f0,f1,f2,f3,f4,f5] 2054 (m.vH f0 f1 f2 f3 f4 f5 fip)
theorem VQ(h:Mx w0 P w B m)(hst:0<=m.addr/\m.addr<=4294967295)(op:Int)(f0 f1 f2 f3 f4 f5:UInt8)(fip t0 t1 t2 t3 t4 t5 tip:Int)(ha:0<=fip/\fip<=4294967295):f_ Vh 187 #[p_ B,.agg (rE op f0.toNat f1.toNat f2.toNat f3.toNat f4.toNat f5.toNat fip t0 t1 t2 t3 t4 t5 tip)] w fun ee w'=>ee=.returned (.tuple #[])/\Mx w0 P w' B (m.tell f0 f1 f2 f3 f4 f5 fip):=by
 have hz:=Cq 2 m.card rfl m.addr [f0,f1,f2,f3,f4,f5] rfl fip;have HAD:Hid (∀u,Mx w0 P u B m->f_ Vh 47 #[p_ B] u fun e w'=>e=.returned (.int .u32 m.addr)/\w'=u):=M0 (fun u hu=>lL hu);have HWA:Hid (∀u,f_ Vh 64 #[.agg (rE 2 m.k0.toNat m.k1.toNat m.k2.toNat m.k3.toNat m.k4.toNat m.k5.toNat m.addr f0.toNat f1.toNat f2.toNat f3.toNat f4.toNat f5.toNat fip)] u fun ee w'=>ee=.returned (.tuple #[.string (m.vH f0 f1 f2 f3 f4 f5 fip),.int .i64 (WM.Bu 2)])/\gm u.heap.size u w'):=M0 (fun u=>WM.lq 2 m.k0 m.k1 m.k2 m.k3 m.k4 m.k5 m.addr f0 f1 f2 f3 f4 f5 fip u (by decide) (by decide) hst.1 hst.2 ha.1 ha.2);have HSD:Hid (∀(w0:fV) (P:Nat->Prop) (u:fV),Mx w0 P u B m->f_ Vh 174 #[p_ B,.agg (rT f0.toNat f1.toNat f2.toNat f3.toNat f4.toNat f5.toNat),.int .u16 2054,.string (m.vH f0 f1 f2 f3 f4 f5 fip)] u fun ee w'=>ee=.returned (.tuple #[])/\Mx w0 P w' B (m.tell f0 f1 f2 f3 f4 f5 fip)):=M0 (fun w0 P u hu=>sP hu f0 f1 f2 f3 f4 f5 2054 _ (by decide) (by decide) (aT9 hz (by decide)));obtain⟨X,hX⟩:=ex_ (w.alloc (.cells (rE op f0.toNat f1.toNat f2.toNat f3.toNat f4.toNat f5.toNat fip t0 t1 t2 t3 t4 t5 tip) 87 (0,0)));have HM:Hid (Mx w0 P X B m):=M0 (by rw[hX];exact h.alloc _);have HG:Hid (X.heap[w.heap.size]?=some (.cells (rE op f0.toNat f1.toNat f2.toNat f3.toNat f4.toNat f5.toNat fip t0 t1 t2 t3 t4 t5 tip) 87 (0,0))):=M0 (by rw[hX];exact aS6 w _);have HK:Hid (∀u,gm X.heap.size X u->(c_ u B 1 (.int .u8 m.k0.toNat)/\c_ u B 2 (.int .u8 m.k1.toNat)/\c_ u B 3 (.int .u8 m.k2.toNat)/\c_ u B 4 (.int .u8 m.k3.toNat)/\c_ u B 5 (.int .u8 m.k4.toNat)/\c_ u B 6 (.int .u8 m.k5.toNat))/\c_ u w.heap.size 1 (.int .u8 f0.toNat)/\c_ u w.heap.size 2 (.int .u8 f1.toNat)/\c_ u w.heap.size 3 (.int .u8 f2.toNat)/\c_ u w.heap.size 4 (.int .u8 f3.toNat)/\c_ u w.heap.size 5 (.int .u8 f4.toNat)/\c_ u w.heap.size 6 (.int .u8 f5.toNat)/\c_ u w.heap.size 7 (.int .u32 fip)):=M0 (fun u hb=>by
  have q:=HM.below hb
  exact⟨⟨q.c1,q.c2,q.c3,q.c4,q.c5,q.c6⟩,ad7 ((hb.block _ (gG HG)).trans HG)⟩)
 have hlt:=HM.lt;have hgl:w.heap.size<X.heap.size:=gG HG;have hnf: ¬iq B m w.heap.size:=fun hf=>bh8 _ (h.ik hf);have h0w:=h.size;obtain⟨AB,hAB⟩:=ex_ (m.vH f0 f1 f2 f3 f4 f5 fip);obtain⟨ke,hke⟩:=ex_ (WM.Bu 2);rw[<-hAB]at HWA HSD;obtain⟨ad,had⟩:=ex_ m.addr;rw[<-had]at HWA HAD;rw[<-hke]at HWA;clear h hst ha hz hAB hke had;go_enter func187,ntmps187;go_wp2;rw[<-hX];clear hX;go_cut [4] (fun s4 wc=>s4=(p_ X.heap.size)/\Hid (Mx w0 P wc B m/\wc.heap[X.heap.size]?=some (.cells (rE 2 m.k0.toNat m.k1.toNat m.k2.toNat m.k3.toNat m.k4.toNat m.k5.toNat ad f0.toNat f1.toNat f2.toNat f3.toNat f4.toNat f5.toNat fip) 87 (0,0))/\wc.heap[w.heap.size]?=some (.cells (rE op f0.toNat f1.toNat f2.toNat f3.toNat f4.toNat f5.toNat fip t0 t1 t2 t3 t4 t5 tip) 87 (0,0))));case first=>
  go_region_held3 (fun u=>(c_ u B 1 (.int .u8 m.k0.toNat)/\c_ u B 2 (.int .u8 m.k1.toNat)/\c_ u B 3 (.int .u8 m.k2.toNat)/\c_ u B 4 (.int .u8 m.k3.toNat)/\c_ u B 5 (.int .u8 m.k4.toNat)/\c_ u B 6 (.int .u8 m.k5.toNat))/\c_ u w.heap.size 1 (.int .u8 f0.toNat)/\c_ u w.heap.size 2 (.int .u8 f1.toNat)/\c_ u w.heap.size 3 (.int .u8 f2.toNat)/\c_ u w.heap.size 4 (.int .u8 f3.toNat)/\c_ u w.heap.size 5 (.int .u8 f4.toNat)/\c_ u w.heap.size 6 (.int .u8 f5.toNat)/\c_ u w.heap.size 7 (.int .u32 fip)) (exact HK _ (by(repeat (first|exact aS8 _ _|(refine bc9 ?_)|(refine aZ3 ?_ (by first|(simp;done)|(simp;omega)) _)))))
   (first|(go_at_call 47;refine aV5 (HAD _ ?_) ?_;exact HM.below (by(repeat (first|exact aS8 _ _|(refine bc9 ?_)|(refine aZ3 ?_ (by first|(simp;done)|(simp;omega)) _))));rintro ee u2 ⟨rfl,rfl⟩))
  all_goals go_wp2
  all_goals go_meet
  all_goals exact⟨rfl,M0 ⟨HM.below (by(repeat (first|exact aS8 _ _|(refine bc9 ?_)|(refine aZ3 ?_ (by first|(simp;done)|(simp;omega)) _)))),aS6 X _,(aT1 X _ _ hgl).trans HG⟩⟩
 rename fV=>x;obtain⟨rfl,HC⟩:=hcut;have HX:=M0 HC.1;have HR:=M0 HC.2.1;have HR1:=M0 HC.2.2;have HKS:Hid (∀u,gm x.heap.size x u->(c_ u w.heap.size 1 (.int .u8 f0.toNat)/\c_ u w.heap.size 2 (.int .u8 f1.toNat)/\c_ u w.heap.size 3 (.int .u8 f2.toNat)/\c_ u w.heap.size 4 (.int .u8 f3.toNat)/\c_ u w.heap.size 5 (.int .u8 f4.toNat)/\c_ u w.heap.size 6 (.int .u8 f5.toNat)/\c_ u w.heap.size 7 (.int .u32 fip))/\c_ u X.heap.size 0 (.int .u16 2)/\c_ u X.heap.size 1 (.int .u8 m.k0.toNat)/\c_ u X.heap.size 2 (.int .u8 m.k1.toNat)/\c_ u X.heap.size 3 (.int .u8 m.k2.toNat)/\c_ u X.heap.size 4 (.int .u8 m.k3.toNat)/\c_ u X.heap.size 5 (.int .u8 m.k4.toNat)/\c_ u X.heap.size 6 (.int .u8 m.k5.toNat)/\c_ u X.heap.size 7 (.int .u32 ad)/\c_ u X.heap.size 8 (.int .u8 f0.toNat)/\c_ u X.heap.size 9 (.int .u8 f1.toNat)/\c_ u X.heap.size 10 (.int .u8 f2.toNat)/\c_ u X.heap.size 11 (.int .u8 f3.toNat)/\c_ u X.heap.size 12 (.int .u8 f4.toNat)/\c_ u X.heap.size 13 (.int .u8 f5.toNat)/\c_ u X.heap.size 14 (.int .u32 fip)):=M0 (fun u hb=>⟨ad7 ((hb.block _ (gG HR1)).trans HR1),fifteen ((hb.block _ (gG HR)).trans HR)⟩);have HFOOT:Hid (¬iq B m X.heap.size/\ ¬iq B m w.heap.size):=M0 ⟨fun hf=>by have:=HM.ik hf;omega,hnf⟩;have HKT:Hid (∀u,Mx x (iq B m) u B (m.tell f0 f1 f2 f3 f4 f5 fip)->(c_ u w.heap.size 1 (.int .u8 f0.toNat)/\c_ u w.heap.size 2 (.int .u8 f1.toNat)/\c_ u w.heap.size 3 (.int .u8 f2.toNat)/\c_ u w.heap.size 4 (.int .u8 f3.toNat)/\c_ u w.heap.size 5 (.int .u8 f4.toNat)/\c_ u w.heap.size 6 (.int .u8 f5.toNat)/\c_ u w.heap.size 7 (.int .u32 fip))/\c_ u X.heap.size 0 (.int .u16 2)/\c_ u X.heap.size 1 (.int .u8 m.k0.toNat)/\c_ u X.heap.size 2 (.int .u8 m.k1.toNat)/\c_ u X.heap.size 3 (.int .u8 m.k2.toNat)/\c_ u X.heap.size 4 (.int .u8 m.k3.toNat)/\c_ u X.heap.size 5 (.int .u8 m.k4.toNat)/\c_ u X.heap.size 6 (.int .u8 m.k5.toNat)/\c_ u X.heap.size 7 (.int .u32 ad)/\c_ u X.heap.size 8 (.int .u8 f0.toNat)/\c_ u X.heap.size 9 (.int .u8 f1.toNat)/\c_ u X.heap.size 10 (.int .u8 f2.toNat)/\c_ u X.heap.size 11 (.int .u8 f3.toNat)/\c_ u X.heap.size 12 (.int .u8 f4.toNat)/\c_ u X.heap.size 13 (.int .u8 f5.toNat)/\c_ u X.heap.size 14 (.int .u32 fip)):=M0 (fun u hu=>⟨ad7 ((hu.kept _ (gG HR1) HFOOT.2).trans HR1),fifteen ((hu.kept _ (gG HR) HFOOT.1).trans HR)⟩);clear HK HAD hlt HC;go_wp2;go_region_held3 (fun u=>(c_ u w.heap.size 1 (.int .u8 f0.toNat)/\c_ u w.heap.size 2 (.int .u8 f1.toNat)/\c_ u w.heap.size 3 (.int .u8 f2.toNat)/\c_ u w.heap.size 4 (.int .u8 f3.toNat)/\c_ u w.heap.size 5 (.int .u8 f4.toNat)/\c_ u w.heap.size 6 (.int .u8 f5.toNat)/\c_ u w.heap.size 7 (.int .u32 fip))/\c_ u X.heap.size 0 (.int .u16 2)/\c_ u X.heap.size 1 (.int .u8 m.k0.toNat)/\c_ u X.heap.size 2 (.int .u8 m.k1.toNat)/\c_ u X.heap.size 3 (.int .u8 m.k2.toNat)/\c_ u X.heap.size 4 (.int .u8 m.k3.toNat)/\c_ u X.heap.size 5 (.int .u8 m.k4.toNat)/\c_ u X.heap.size 6 (.int .u8 m.k5.toNat)/\c_ u X.heap.size 7 (.int .u32 ad)/\c_ u X.heap.size 8 (.int .u8 f0.toNat)/\c_ u X.heap.size 9 (.int .u8 f1.toNat)/\c_ u X.heap.size 10 (.int .u8 f2.toNat)/\c_ u X.heap.size 11 (.int .u8 f3.toNat)/\c_ u X.heap.size 12 (.int .u8 f4.toNat)/\c_ u X.heap.size 13 (.int .u8 f5.toNat)/\c_ u X.heap.size 14 (.int .u32 fip)) (first|exact HKS _ ((aS8 _ _).drew)|exact HKS _ HB1|exact HKT _ H3)
  (first|(go_at_call 64;refine(HWA _).mono ?_;rintro ee u1 ⟨rfl,hb1⟩;have HB1:=M0 (((aS8 x.heap.size x).drew).trans hb1);clear hb1)|(go_at_call 175;refine(WQ _ _ _).mono ?_;rintro ee u2 ⟨rfl,rfl⟩)|(go_at_call 174;refine(HSD x (iq B m) _ (HX.base.below HB1)).mono ?_;rintro ee u3 ⟨rfl,h3⟩;have H3:=M0 h3;clear h3))
 go_wp2;go_end0;exact⟨rfl,HX.join H3⟩
theorem Step.tell(h:Inv K m)(f0 f1 f2 f3 f4 f5:UInt8)(fip:Int):Step K m (m.tell f0 f1 f2 f3 f4 f5 fip):=.sent h ⟨_,2054,_,rfl,rfl,Cq _ _ rfl _ _ rfl _,aT2 rfl⟩
theorem Step.WS(h:Inv K m)(hf:m.fs<=3):Step K m m.WS:=by
 refine .quiet ⟨?_,h.port,h.Wl,h.TE,h.bE,h.low,h.img,h.gQ,h.cap,h.st⟩ rfl (aT7 rfl) ⟨rfl,rfl,rfl,rfl,rfl,rfl,rfl⟩;have o:=h.ok;exact⟨o.draw,o.id,o.gF,o.iB,o.iO,o.ws,o.mask,o.yz,o.FJ,o.old,o.iZ,o.over,⟨by show 0<=m.fs+1;have:=o.fs.1;omega,by show m.fs+1<=4;omega⟩,o.sF,o.sT,o.sL⟩
def Im(m mz:Mc):Prop:=mz.ql=m.ql/\mz.phase=m.phase/\mz.st=m.st/\mz.iB=m.iB
theorem bg(h:Mx w0 P w B m)(hi:Inv K m)(hst:4<=m.st)(hf:m.fs<=3):f_ Vh 92 #[p_ B] w fun ee w'=>ee=.returned (.tuple #[])/\∃mz,(Step K m mz/\Im m mz/\mz.fs=m.fs+1)/\Mx w0 P w' B mz:=by
 have hs:=Step.WS hi hf;have q:=eQ h hi.ok hf (fun mz=>Step K m.WS mz/\Kp m.WS mz) (fun mz hz=>⟨hz.2.sF,hz.2.sT,hz.2.sL⟩) (fun u hu=>bG hu hs.inv hst m.sF m.sT m.sL hi.ok.FJ hi.ok.sF hi.ok.sT hi.ok.sL);refine on_ q ?_;rintro u ⟨mz,hz,hu⟩;exact⟨rfl,mz,⟨hs.trans hz.1,⟨hz.2.ql,hz.2.phase,hz.2.st,hz.2.iB⟩,hz.2.fs⟩,hu⟩
theorem Step.Wv(h:Inv K m)(hl:m.Xx.size<=262144):Step K m m.Wv:=by
 refine .quiet ⟨?_,h.port,h.Wl,h.TE,h.bE,h.low,h.img,h.gQ,h.cap,h.st⟩ rfl (aT7 rfl) ⟨rfl,rfl,rfl,rfl,rfl,rfl,rfl⟩;have o:=h.ok;exact⟨o.draw,o.id,o.gF,o.iB,o.iO,o.ws,o.mask,o.yz,o.FJ,o.old,o.iZ,o.over,z4,h.port,h.Wl,hl⟩
theorem Step.withheld(h:Inv K m)(hl:m.Xx.size<=262144):Step K m m.withheld:=by
 refine .quiet ⟨?_,h.port,h.Wl,h.TE,h.bE,h.low,h.img,h.gQ,h.cap,h.st⟩ rfl (aT7 rfl) ⟨rfl,rfl,rfl,rfl,rfl,rfl,rfl⟩;have o:=h.ok;exact⟨o.draw,o.id,o.gF,o.iB,o.iO,o.ws,o.mask,o.yz,o.FJ,o.old,o.iZ,o.over,(by show(0:Int)<=1/\(1:Int)<=4;decide),h.port,h.Wl,hl⟩
theorem aF(h:Mx w0 P w B m)(hi:Inv K m)(hst:4<=m.st)(hl:m.Xx.size<=262144):f_ Vh 270 #[p_ B] w fun ee w'=>ee=.returned (.tuple #[])/\∃mz,(Step K m mz/\Im m mz)/\Mx w0 P w' B mz:=by
 have hs:=Step.Wv hi hl;have q:=eX h (fun mz=>Step K m.Wv mz/\Im m.Wv mz/\mz.fs=(0:Int)+1) (fun u hu=>bg hu hs.inv hst (by show(0:Int)<=3;decide));refine on_ q ?_;rintro u ⟨mz,hz,hu⟩;exact⟨rfl,mz,⟨hs.trans hz.1,hz.2.1⟩,hu⟩
theorem o7(h:Mx w0 P w B m)(s t:Int)(Z:Mc->Prop)(h0:m.now<t->Z m)(h1: ¬m.now<t->s=4->∀b,Z (m.fail.at b))(hs:s<=4)
  (HF: ¬m.now<t->s≠4->∀u,Mx w0 P u B m->f_ Vh 92 #[p_ B] u fun ee w'=>ee=.returned (.tuple #[])/\∃mz,Z mz/\Mx w0 P w' B mz):
  f_ Vh 87 #[p_ B,.agg #[.int .i64 s,.int .i64 t],.func (.func 92) #[] #[]] w fun ee w'=>ee=.returned (.tuple #[])/\∃mz,Z mz/\Mx w0 P w' B mz:=by
 by_cases hn:m.now<t
 ·refine on_ (ae1 h s t _ hn) fun u hu=>?_
  exact⟨rfl,m,h0 hn,hu⟩
 have HM:=M0 (h.alloc (.cells #[.int .i64 s,.int .i64 t] 107));have c14:=h.c14;have hlt:=h.lt;clear h
 by_cases h2:s=4
 ·have HFL:=fun(k:Nat)=>M0 (oM (w:=(w.alloc (.cells #[.int .i64 s,.int .i64 t] 107)).drewN k) (HM.like ⟨rfl,rfl,rfl,rfl⟩))
  have HZ:=M0 (h1 hn h2);clear HM HF h0 h1;subst h2;go_enter func87,ntmps87;go_wp2;go_quiet (fail);go_wp2_with fail;refine on_ (gB (HFL _)) ?_;rintro u ⟨b,hu⟩;have HU:=M0 hu;clear hu HFL;go_wp2;go_end0;exact⟨rfl,_,HZ b,HU⟩
 have HFF:=M0 (HF hn h2);have h2b:(s==4)=false:=by simpa using h2
 clear HF h0 h1 h2;go_enter func87,ntmps87;go_wp2;go_quiet (fail);go_wp2_with fail;refine aV5 (HFF _ ?_) ?_
 ·exact HM.like ⟨rfl,rfl,rfl,rfl⟩
 rintro ee u ⟨rfl,mz,hz,hu⟩;have HU:=M0 hu;have HZ:=M0 hz;clear hu hz HFF;go_wp2;go_end0;exact⟨rfl,mz,HZ,HU⟩
theorem aU(hi:Inv K m)(hf:m.lK=true):4<=m.st:=by
 by_cases h:m.st<4
 ·unfold Mc.lK at hf
  rcases(hi.low h).2 with e|e<;>rw[e]at hf<;>simp at hf
 omega
theorem aY(h:Mx w0 P w B m)(hi:Inv K m):f_ Vh 51 #[p_ B] w fun ee w'=>ee=.returned (.tuple #[])/\∃mz,(Step K m mz/\(m.fs<=3->Im m mz))/\Mx w0 P w' B mz:=by
 cases hf:m.lK with
 |false=>
  refine on_ (tF h hf) fun u hu=>?_;exact⟨rfl,m,⟨.refl hi,fun _=>⟨rfl,rfl,rfl,rfl⟩⟩,hu⟩
 |true=>
  have hst:=aU hi hf;have HI:=W9 h;rw[hf]at HI;have HII:=M0 HI;have HW:Hid (∀u,Mx w0 P u B m->f_ Vh 87 #[p_ B,.agg #[.int .i64 m.fs,.int .i64 m.fu],.func (.func 92) #[] #[]] u fun ee w'=>ee=.returned (.tuple #[])/\∃mz,(Step K m mz/\(m.fs<=3->Im m mz))/\Mx w0 P w' B mz):=M0 (fun u hu=>o7 hu m.fs m.fu (fun mz=>Step K m mz/\(m.fs<=3->Im m mz)) (fun _=>⟨.refl hi,fun _=>⟨rfl,rfl,rfl,rfl⟩⟩) (fun _ e b=>⟨.fail hi b,fun e3=>by omega⟩) hi.ok.fs.2 (fun _ e4 u2 hu2=>(bg hu2 hi hst (by have:=hi.ok.fs.2;omega)).mono (by
   rintro ee u3 ⟨rfl,mz,hz,h3⟩
   exact⟨rfl,mz,⟨hz.1,fun _=>hz.2.1⟩,h3⟩)))
  have HM:=M0 h;have UC:=h.UC;have c51:=h.c51;clear h HI hi hst;go_enter func51,ntmps51;go_wp2_with fail;refine HII.mono ?_;rintro ee u ⟨rfl,rfl⟩;go_wp2_with fail;refine on_ (HW _ HM) ?_;rintro u2 ⟨mz,hz,h7⟩;have H7:=M0 h7;have HZ:=M0 hz;clear h7 hz HM HW;go_wp2;go_end0;exact⟨rfl,mz,HZ,H7⟩
theorem bV(h:Mx w0 P w B m)(hi:Inv K m)(hst:4<=m.st):f_ Vh 50 #[p_ B] w fun ee w'=>ee=.returned (.tuple #[])/\∃mz,Step K m mz/\Mx w0 P w' B mz:=by
 have nk:=h.nk;have HT:=M0 (dK h hi hst);have h6:=hi.st.2;have h456:m.st=4∨m.st=5∨m.st=6:=by omega
 clear h hi h6
 rcases h456 with e|e|e
 all_goals
  rw[e]at nk;clear e;go_enter func50,ntmps50;go_wp2_with fail;refine on_ HT ?_;rintro u2 ⟨mz,hz,h7⟩;have H7:=M0 h7;have HZ:=M0 hz;clear h7 hz HT;go_wp2;go_end0;exact⟨rfl,mz,HZ,H7⟩
structure Ev (K:Nat->Nat) (m m':Mc):Prop where
 inv:Inv K m'
 out:∃q,m'.gq=m.gq++q/\∀o ∈ q,cZ m.card m.addr o∨cZ m.card m'.addr o
 fix:VV m m'
 over:m.ended=true->m'.phase=m.phase/\m'.gq=m.gq/\m'.ql=m.ql
theorem Step.ev(h:Step K m m')(he:m.ended=false):Ev K m m':=by
 obtain⟨q,h1,h2⟩:=h.out;exact⟨h.inv,⟨q,h1,fun o ho=>aT2 (h2 o ho)⟩,h.fix,fun e=>by rw[he]at e;cases e⟩
theorem Step.clock(h:Inv K m)(d:Int)(hd:0<=d/\d<=4294967295):Step K m (m.clock d):=
 .quiet ⟨h.ok.clock d hd,h.port,h.Wl,h.TE,h.bE,h.low,h.img,h.gQ,h.cap,h.st⟩ rfl (aT7 rfl) ⟨rfl,rfl,rfl,rfl,rfl,rfl,rfl⟩
theorem Step.at(h:Inv K m)(b:Nat):Step K m (m.at b):=
 .quiet ⟨h.ok.at b,h.port,h.Wl,h.TE,h.bE,h.low,h.img,h.gQ,h.cap,h.st⟩ rfl (aT7 rfl) ⟨rfl,rfl,rfl,rfl,rfl,rfl,rfl⟩
theorem Step.jR(h:Inv K m)(hw:m.ws<=3):Step K m m.jR:=
 .quiet ⟨h.ok.jR hw,h.port,h.Wl,h.TE,h.bE,h.low,h.img,h.gQ,h.cap,h.st⟩ rfl (aT7 rfl) ⟨rfl,rfl,rfl,rfl,rfl,rfl,rfl⟩
theorem Step.off(h:Inv K m)(hst:m.st=0):Step K m m.off:=by
 have l:=h.low (by omega);have a:Step K m (({m with gF:=m.draw}:Mc).n_):=.quiet ⟨h.ok.Sj.n_,h.port,h.Wl,h.TE,h.bE,fun _=>l,h.img,h.gQ,h.cap,(by show(0:Int)<=1/\(1:Int)<=6;decide)⟩ rfl (aT2 rfl) ⟨rfl,rfl,rfl,rfl,rfl,rfl,rfl⟩;exact a.trans ((Step.jR a.inv (by show(0:Int)<=3;decide)).trans (.say (Step.jR a.inv (by show(0:Int)<=3;decide)).inv _ _))
theorem Step.VL(h:Inv K m):Step K m m.fail:=by
 have q:=Step.fail h m.fail.bm;rw[mi]at q;exact q
theorem Step.A_(h:Inv K m):Step K m m.A_:=by
 unfold Mc.A_
 split
 ·exact .refl h
 split
 ·exact .VL h
 have w:=h.ok.ws;exact(Step.jR h (by omega)).trans (.say (Step.jR h (by omega)).inv _ _)
theorem Step.Lm(h:Inv K m):Step K m m.Lm:=by
 unfold Mc.Lm
 split
 ·exact .refl h
 split
 ·exact .VL h
 have w:=h.ok.ws;exact(Step.jR h (by omega)).trans (.say (Step.jR h (by omega)).inv _ _)
theorem Step.nz(h:Inv K m):Step K m m.nz:=by
 unfold Mc.nz
 split
 ·exact .off h (by assumption)
 split
 ·exact .A_ h
 split
 ·exact .Lm h
 exact .refl h
theorem Inv.late(h:Inv K m)(hst:m.st<4):m.Late:=⟨h.ok,(by have:=h.st;omega),(h.low hst).1,(h.low hst).2⟩
theorem fF(h:Mx w0 P w B m)(d:Int)(he:m.ended=true):f_ Vh 29 #[p_ B,.int .u32 d] w fun ee w'=>ee=.returned (.tuple #[])/\Mx w0 P w' B (m.clock d):=by
 have c14:=h.c14;have f14:=h.free 14;have c15:=h.c15;have f15:=h.free 15;have HM:Hid (Mx w0 P ((w.setCell (a_ B 14) (.int .i64 (wrap64 (m.now+1)))).setCell (a_ B 15) (.int .u32 d)) B (m.clock d)):=M0 ((h.TW _).s15 _);have HE:=M0 (t_ HM);rw[show(m.clock d).ended=true from he]at HE;clear h;go_enter func29,ntmps29;go_wp2_with fail;refine HE.mono ?_;rintro ee u ⟨rfl,rfl⟩;go_wp2;go_end0;exact⟨rfl,HM⟩
structure Cg (m:Mc):Prop where
 blk:0<=m.blk/\m.blk<=65536
 win:0<=m.win/\m.win<=65536
 name:m.name.size<=1024
 b32:(Lib.itoa m.blk).length<=32
 w32:(Lib.itoa m.win).length<=32
theorem fD(h:Mx w0 P w B m)(hi:Inv K m)(hq:Tq w0 P)(hc:Cg m)(hst:m.st=3)(hph:m.phase=0)(hn:wrap64 (m.gr+2)<=m.now):
  f_ Vh 50 #[p_ B] w fun ee w'=>ee=.returned (.tuple #[])/\∃mz,(Step K {m with st:=4} mz/\mz.st=4/\mz.iB=m.iB/\mz.fs<=3)/\Mx w0 P w' B mz:=by
 have i4:Inv K {m with st:=4}:=⟨by have o:=hi.ok;cases o;constructor<;>assumption,hi.port,hi.Wl,hi.TE,hi.bE,fun e=>absurd e (by show ¬(4:Int)<4;decide),hi.img,hi.gQ,hi.cap,(by show(0:Int)<=4/\(4:Int)<=6;decide)⟩;obtain⟨pt,hpt⟩:=ex_ (1024+m.draw%60000);have hd:=hi.ok.draw;have hp:0<=pt/\pt<=65535:=by omega
 have s5:Step K {m with st:=4} (({m with st:=4}:Mc).asking pt (({m with st:=4}:Mc).fresh pt).XK):=by
  refine .quiet ⟨?_,hp,dB,(by show(0:Int)<=1/\(1:Int)<=65535;decide),hi.bE,fun e=>absurd e (by show ¬(4:Int)<4;decide),hi.img,(fun e=>by cases e),hi.cap,i4.st⟩ rfl (aT7 rfl) ⟨rfl,rfl,rfl,rfl,rfl,rfl,rfl⟩;have o:=hi.ok;exact⟨o.draw,o.id,o.gF,o.iB,o.iO,o.ws,o.mask,o.yz,o.FJ,o.old,o.iZ,o.over,z4,hp,(by show(0:Int)<=69/\(69:Int)<=65535;decide),aT9 (Zb _) (by decide)⟩
 refine(aP h hst hn (fun mz=>Step K {m with st:=4} mz/\mz.st=4/\mz.iB=m.iB/\mz.fs<=3) (fun u hu=> ?_));refine bA hu hq i4.ok hc.1 hc.2 hc.3 hc.4 hc.5 _ pt hpt (fun u2 hu2=> ?_);refine on_ (bg hu2 s5.inv (by show(4:Int)<=4;decide) (by show(0:Int)<=3;decide)) ?_;rintro u3 ⟨mz,hz,h3⟩;refine⟨rfl,mz,⟨s5.trans hz.1,hz.2.1.2.2.1,hz.2.1.2.2.2,?_⟩,h3⟩;rw[hz.2.2];show(0:Int)+1<=3;decide
theorem Gi(h:Mx w0 P w B m)(hi:Inv K m)(hq:Tq w0 P)(hc:Cg m)(d:Int)(hd:0<=d/\d<=4294967295):
  f_ Vh 29 #[p_ B,.int .u32 d] w fun ee w'=>ee=.returned (.tuple #[])/\∃mz,Ev K m mz/\Mx w0 P w' B mz:=by
 have hk:=Step.clock hi d hd
 cases he:m.ended with
 |true=>
  refine on_ (fF h d he) fun u hu=>?_;obtain⟨q,h1,h2⟩:=hk.out;exact⟨rfl,_,⟨hk.inv,⟨q,h1,fun o ho=>aT2 (h2 o ho)⟩,hk.fix,fun _=>⟨rfl,rfl,rfl⟩⟩,hu⟩
 |false=>
  by_cases hst:m.st<4
  ·by_cases hb:m.st=3/\ ¬wrap64 (m.now+1)<wrap64 (m.gr+2)
   ·have hl:=hi.low hst
    have hp0:m.phase=0:=by
     rcases hl.2 with e|e
     ·exact e
     unfold Mc.ended at he;rw[e]at he;cases he
    refine(oH h d he (fun mz=>mz=m.clock d) (fun mz=>Step K {m.clock d with st:=4} mz/\mz.st=4/\mz.iB=m.iB/\mz.fs<=3) (fun mz=>Step K {m.clock d with st:=4} mz/\mz.st=4/\mz.iB=m.iB) (fun u hu=> ?_) (fun m1 u e hu=> ?_) (fun m1 u hz hu=> ?_)).mono ?_
    ·refine on_ (sO hu hl.1) fun u2 h2=>?_
     exact⟨rfl,_,rfl,h2⟩
    ·subst e
     exact fD hu hk.inv hq ⟨hc.1,hc.2,hc.3,hc.4,hc.5⟩ hb.1 hp0 (by show wrap64 (m.gr+2)<=wrap64 (m.now+1);omega)
    ·refine on_ (aY hu hz.1.inv) ?_
     rintro u2 ⟨mz,hz2,h2⟩;have im:=hz2.2 hz.2.2.2;exact⟨rfl,mz,⟨hz.1.trans hz2.1,im.2.2.1.trans hz.2.1,im.2.2.2.trans hz.2.2.1⟩,h2⟩
    rintro ee u ⟨rfl,mz,⟨hs,h4,ha⟩,hu⟩;obtain⟨q,h1,h2⟩:=hs.out;have e:mz.addr=m.iB:=by rw[aJ (by omega),ha]
    refine⟨rfl,mz,⟨hs.inv,⟨q,h1,fun o ho=>aT7 ?_⟩,⟨hs.fix.1,hs.fix.2,hs.fix.3,hs.fix.4,hs.fix.5,hs.fix.6,hs.fix.7⟩,fun e=>by rw[he]at e;cases e⟩,hu⟩;rw[e];exact h2 o ho
   refine(xy h (hi.late hst) (fun e3=>by
    by_cases hx:wrap64 (m.now+1)<wrap64 (m.gr+2)
    ·exact hx
    exact absurd ⟨e3,hx⟩ hb) d hd).mono ?_
   rintro ee u ⟨rfl,b,hu⟩;refine⟨rfl,_,Step.ev ?_ he,hu⟩;unfold Mc.nY;rw[aT4 (by rw[show(m.clock d).ended=m.ended from rfl,he];decide)];exact(hk.trans (.nz hk.inv)).trans (.at (Step.nz hk.inv).inv b)
  refine(oH h d he (fun mz=>Step K m mz/\4<=mz.st) (fun mz=>Step K m mz) (fun mz=>Step K m mz) (fun u hu=> ?_) (fun m1 u hz hu=> ?_) (fun m1 u hz hu=> ?_)).mono ?_
  ·refine on_ (bS hu hk.inv (by show 4<=m.st;omega)) ?_
   rintro u2 ⟨mz,hz,h2⟩;exact⟨rfl,mz,⟨hk.trans hz.1,hz.2⟩,h2⟩
  ·refine on_ (bV hu hz.1.inv hz.2) ?_
   rintro u2 ⟨mz,hz2,h2⟩;exact⟨rfl,mz,hz.1.trans hz2,h2⟩
  ·refine on_ (aY hu hz.inv) ?_
   rintro u2 ⟨mz,hz2,h2⟩;exact⟨rfl,mz,hz.trans hz2.1,h2⟩
  rintro ee u ⟨rfl,mz,hz,hu⟩;exact⟨rfl,mz,hz.ev he,hu⟩
theorem dP(h:Mx w0 P w B m)(hi:Inv K m)(hst:4<=m.st)(load:ByteArray)(op:Int)(f0 f1 f2 f3 f4 f5:UInt8)(fip t0 t1 t2 t3 t4 t5 tip:Int)(hr:0<=fip/\fip<=4294967295)
  (hR:∀u,f_ Vh 63 #[.string load] u fun e w'=>e=.returned (.tuple #[.agg (rE op f0.toNat f1.toNat f2.toNat f3.toNat f4.toNat f5.toNat fip t0 t1 t2 t3 t4 t5 tip),.int .i64 0])/\gm u.heap.size u w'):
  f_ Vh 145 #[p_ B,.string load] w fun ee w'=>ee=.returned (.tuple #[])/\∃mz,Step K m mz/\Mx w0 P w' B mz:=by
 have hn3:m.st≠3:=by omega
 have HR:=M0 (hR w);have HM:=M0 h;clear hR h;go_enter func145,ntmps145;go_wp2_with fail;refine on_ HR fun u1 hb1=>?_;have HNF: ¬iq B m u1.heap.size:=fun hf=>bh8 _ ((HM.below hb1).ik hf);have HM1:=M0 ((HM.below hb1).alloc (.cells (rE op f0.toNat f1.toNat f2.toNat f3.toNat f4.toNat f5.toNat fip t0 t1 t2 t3 t4 t5 tip) 87));clear hb1 HR HM;have HR1:Hid ((u1.alloc (.cells (rE op f0.toNat f1.toNat f2.toNat f3.toNat f4.toNat f5.toNat fip t0 t1 t2 t3 t4 t5 tip) 87)).heap[u1.heap.size]?=some (.cells (rE op f0.toNat f1.toNat f2.toNat f3.toNat f4.toNat f5.toNat fip t0 t1 t2 t3 t4 t5 tip) 87 (0,0))):=M0 (aS6 u1 _);have HC1:=M0 (Ar HM1 hn3 op f0.toNat f1.toNat f2.toNat f3.toNat f4.toNat f5.toNat fip t0 t1 t2 t3 t4 t5 tip);go_wp2_with fail;refine on_ HC1 fun u2 hb2=>?_;have HM2:=M0 (HM1.below hb2);have HR2:=M0 ((hb2.block u1.heap.size (gG HR1)).trans HR1);clear hb2 HC1 HM1 HR1;obtain⟨x0,x1,x2,x3,x4,x5,x6,x7,x8,x9,x10,x11,x12,x13,x14⟩:=oZ HR2;have HC2:=M0 (fO HM2.base hi hst op f0 f1 f2 f3 f4 f5 fip t0 t1 t2 t3 t4 t5 tip hr);go_wp2_with fail;refine on_ HC2 ?_;rintro u3 ⟨m1,hs1,hk3⟩;have HS1:=M0 hs1;have HM3:=M0 (HM2.join hk3);have HR3:=M0 ((hk3.kept u1.heap.size (gG HR2) HNF).trans HR2);clear hk3 hs1 HC2 HM2 HR2 x0 x1 x2 x3 x4 x5 x6 x7 x8 x9 x10 x11 x12 x13 x14;obtain⟨x0,x1,x2,x3,x4,x5,x6,x7,x8,x9,x10,x11,x12,x13,x14⟩:=oZ HR3;have HC3:=M0 (bL HM3 op f0 f1 f2 f3 f4 f5 fip t0 t1 t2 t3 t4 t5 tip);go_wp2_with fail;refine HC3.mono ?_;rintro ee u4 ⟨b,rfl,hb4⟩;have HM4:=M0 (HM3.below hb4);have HR4:=M0 ((hb4.block u1.heap.size (gG HR3)).trans HR3);clear hb4 HC3 HM3 HR3 x0 x1 x2 x3 x4 x5 x6 x7 x8 x9 x10 x11 x12 x13 x14
 cases b with
 |false=>
  go_wp2;go_returns
  exact⟨rfl,m1,HS1,HM4⟩
 |true=>
  obtain⟨x0,x1,x2,x3,x4,x5,x6,x7,x8,x9,x10,x11,x12,x13,x14⟩:=oZ HR4;have HC4:=M0 (VQ HM4 HS1.inv.ok.addr op f0 f1 f2 f3 f4 f5 fip t0 t1 t2 t3 t4 t5 tip hr);go_wp2_with fail;refine on_ HC4 fun u5 h5=>?_;have HM5:=M0 h5;clear h5 HC4;go_wp2;go_end0;exact⟨rfl,_,HS1.trans (.tell HS1.inv f0 f1 f2 f3 f4 f5 fip),HM5⟩
theorem Step.zg(h:Inv K m)(f0 f1 f2 f3 f4 f5 fip:Int):Step K m (m.zg f0 f1 f2 f3 f4 f5 fip):=by
 unfold Mc.zg
 split
 ·exact(Step.say h _ _).trans (.VL (Step.say h _ _).inv)
 exact .refl h
theorem dL(h:Mx w0 P w B m)(hi:Inv K m)(load:ByteArray)(hl:load.size<=262144):f_ Vh 145 #[p_ B,.string load] w fun ee w'=>ee=.returned (.tuple #[])/\∃mz,Step K m mz/\Mx w0 P w' B mz:=by
 obtain⟨op,f0,f1,f2,f3,f4,f5,fip,t0,t1,t2,t3,t4,t5,tip,k,hR,hr,_⟩:=RC.D7.VG load (by simp only[maxLen];omega)
 by_cases hk:k=0
 ·subst hk
  by_cases hst:m.st<4
  ·refine(Iy h (hi.late hst) load op f0.toNat f1.toNat f2.toNat f3.toNat f4.toNat f5.toNat fip t0 t1 t2 t3 t4 t5 tip hR).mono ?_
   rintro ee u ⟨rfl,mz,⟨b,rfl⟩,hu⟩;exact⟨rfl,_,(Step.zg hi _ _ _ _ _ _ _).trans (.at (Step.zg hi _ _ _ _ _ _ _).inv b),hu⟩
  exact dP h hi (by omega) load op f0 f1 f2 f3 f4 f5 fip t0 t1 t2 t3 t4 t5 tip hr hR
 refine on_ (EX h load op f0.toNat f1.toNat f2.toNat f3.toNat f4.toNat f5.toNat fip t0 t1 t2 t3 t4 t5 tip k hk hR) fun u hu=>?_;exact⟨rfl,m,.refl hi,hu⟩
theorem bU(s:Int)(m:Mc)(sv:Int)(w:fV):f_ Vh 265 #[.agg #[.int .i64 s,.int .u32 m.gF,.int .u32 m.iB,.int .u32 m.iO,.int .i64 m.ws,.int .i64 m.wu,.int .i64 m.gr,.int .u32 m.mask,.int .u32 m.yz,.int .u32 m.FJ,.bool m.ends,.int .u32 m.old,.int .u32 m.iZ,.int .u32 m.over,.int .i64 m.asked],.int .u32 sv] w fun ee w'=>∃b,ee=.returned (.bool b)/\gm w.heap.size w w':=by
 by_cases hs:s=6
 ·subst hs
  go_enter func265,ntmps265;go_wp2;go_ret;exact⟨_,rfl,(aS8 _ _).alloc (aS5 _) _⟩
 have hb:(s==6)=false:=by simpa using hs
 go_enter func265,ntmps265;go_wp2;go_ret;exact⟨_,rfl,(aS8 _ _).alloc (aS5 _) _⟩
theorem dQ(h:Mx w0 P w B m)(hi:Inv K m)(h56:m.st=5∨m.st=6)(rep:Bool)(gF cl yo ne d0 d1 d2 d3 d4 d5:Int)(sa:Option Addr)(n sc:Nat)(sv:Int)
  (HG0:∀u,Mx w0 P u B m->gm w.heap.size w u->f_ Vh 266 #[p_ B,.agg (rD rep gF cl yo ne d0 d1 d2 d3 d4 d5 sa n sc sv)] u fun ee w'=>ee=.returned (.tuple #[])/\∃mz,Step K m mz/\Mx w0 P w' B mz):
  f_ Vh 245 #[p_ B,.agg (rD rep gF cl yo ne d0 d1 d2 d3 d4 d5 sa n sc sv)] w fun ee w'=>ee=.returned (.tuple #[])/\∃mz,Step K m mz/\Mx w0 P w' B mz:=by
 have HG:=M0 HG0;clear HG0;have hm:=h.alloc (.cells (rD rep gF cl yo ne d0 d1 d2 d3 d4 d5 sa n sc sv) 269);obtain⟨v,hv⟩:=ex_ (w.alloc (.cells (rD rep gF cl yo ne d0 d1 d2 d3 d4 d5 sa n sc sv) 269));have hrow:v.heap[w.heap.size]?=some (.cells (rD rep gF cl yo ne d0 d1 d2 d3 d4 d5 sa n sc sv) 269 (0,0)):=by rw[hv];exact aS6 w (.cells (rD rep gF cl yo ne d0 d1 d2 d3 d4 d5 sa n sc sv) 269)
 have HBV:Hid (gm w.heap.size w v):=M0 (by rw[hv];exact(aS8 _ _).alloc (aS5 _) _);have nk:=h.nk;have hB:=h.lt;have hne:B≠w.heap.size:=aU4 hB;rw[<-hv]at hm;have HM:=M0 hm;have HROW:=M0 hrow;have HKS:Hid (∀u,gm v.heap.size v u->(c_ u B 25 (.int .i64 m.st)/\c_ u B 26 (.int .u32 m.gF)/\c_ u B 27 (.int .u32 m.iB)/\c_ u B 28 (.int .u32 m.iO)/\c_ u B 29 (.int .i64 m.ws)/\c_ u B 30 (.int .i64 m.wu)/\c_ u B 31 (.int .i64 m.gr)/\c_ u B 32 (.int .u32 m.mask)/\c_ u B 33 (.int .u32 m.yz)/\c_ u B 34 (.int .u32 m.FJ)/\c_ u B 35 (.bool m.ends)/\c_ u B 36 (.int .u32 m.old)/\c_ u B 37 (.int .u32 m.iZ)/\c_ u B 38 (.int .u32 m.over)/\c_ u B 39 (.int .i64 m.asked))/\u.cell? (a_ w.heap.size 3)=some (.int .u32 yo)/\u.cell? (a_ w.heap.size 12)=some (.int .u32 sv)):=M0 (fun u hb=>by
  have hu:=hm.below hb
  have q:=Af ((hb.block w.heap.size (aT3 hrow)).trans hrow)
  exact⟨⟨hu.nk,hu.sw,hu.uF,hu.c28,hu.yg,hu.yE,hu.c31,hu.c32,hu.qd,hu.c34,hu.Qu,hu.Qw,hu.c37,hu.Qx,hu.TF⟩,q.1,q.2⟩)
 have HI:=M0 (fun s=>bU s m sv v.drew);have HV:=M0 hv;have HIN:=M0 hi;clear h hv hrow hm hi
 rcases h56 with e|e
 all_goals
  rw[e]at nk HKS;clear e
  by_cases hy:yo=m.iB
  ·have hyb:(yo==m.iB)=true:=by simpa using hy
   clear hy;go_enter func245,ntmps245;go_wp2;rw[<-gB HV];first
    |(go_region_held3 (fun u=>(c_ u B 25 (.int .i64 5)/\c_ u B 26 (.int .u32 m.gF)/\c_ u B 27 (.int .u32 m.iB)/\c_ u B 28 (.int .u32 m.iO)/\c_ u B 29 (.int .i64 m.ws)/\c_ u B 30 (.int .i64 m.wu)/\c_ u B 31 (.int .i64 m.gr)/\c_ u B 32 (.int .u32 m.mask)/\c_ u B 33 (.int .u32 m.yz)/\c_ u B 34 (.int .u32 m.FJ)/\c_ u B 35 (.bool m.ends)/\c_ u B 36 (.int .u32 m.old)/\c_ u B 37 (.int .u32 m.iZ)/\c_ u B 38 (.int .u32 m.over)/\c_ u B 39 (.int .i64 m.asked))/\u.cell? (a_ w.heap.size 3)=some (.int .u32 yo)/\u.cell? (a_ w.heap.size 12)=some (.int .u32 sv)) (first|exact HKS _ ((aS8 _ _).drew)|exact HKS _ HB1)
       (first|(go_at_call 265;refine(HI _).mono ?_;rintro ee u ⟨bb,rfl,hb⟩;have HB1:=M0 (((aS8 v.heap.size v).drew).trans hb);clear hb)))
    |(go_region_held3 (fun u=>(c_ u B 25 (.int .i64 6)/\c_ u B 26 (.int .u32 m.gF)/\c_ u B 27 (.int .u32 m.iB)/\c_ u B 28 (.int .u32 m.iO)/\c_ u B 29 (.int .i64 m.ws)/\c_ u B 30 (.int .i64 m.wu)/\c_ u B 31 (.int .i64 m.gr)/\c_ u B 32 (.int .u32 m.mask)/\c_ u B 33 (.int .u32 m.yz)/\c_ u B 34 (.int .u32 m.FJ)/\c_ u B 35 (.bool m.ends)/\c_ u B 36 (.int .u32 m.old)/\c_ u B 37 (.int .u32 m.iZ)/\c_ u B 38 (.int .u32 m.over)/\c_ u B 39 (.int .i64 m.asked))/\u.cell? (a_ w.heap.size 3)=some (.int .u32 yo)/\u.cell? (a_ w.heap.size 12)=some (.int .u32 sv)) (first|exact HKS _ ((aS8 _ _).drew)|exact HKS _ HB1)
       (first|(go_at_call 265;refine(HI _).mono ?_;rintro ee u ⟨bb,rfl,hb⟩;have HB1:=M0 (((aS8 v.heap.size v).drew).trans hb);clear hb)))
   have HMu:=M0 (HM.below HB1);have HRu:=M0 ((HB1.block w.heap.size (aT3 HROW)).trans HROW);have HGG:=M0 (HG _ HMu (HBV.trans (HB1.mono HBV.size)));clear HM HKS HI HG
   cases bb with
   |true=>
    go_wp2_with (refine bd1 rfl 269 (.tmp 3) rfl w.heap.size rfl 269 _ (0,0) _ HRu bg0 rfl (by kernel_rfl) ?_);refine on_ HGG ?_;rintro u9 ⟨mz,hz,hu⟩;have HU:=M0 hu;have HZ:=M0 hz;clear hu hz HGG;go_wp2;go_end0;exact⟨rfl,mz,HZ,HU⟩
   |false=>
    go_wp2;go_end0;exact⟨rfl,m,.refl HIN,HMu⟩
  have hyb:(yo==m.iB)=false:=by simpa using hy
  clear hy;obtain⟨⟨k25,k26,k27,_⟩,k3,k12⟩:=HKS v (aS8 _ _);clear HKS HI HG;go_enter func245,ntmps245;go_wp2;rw[<-gB HV];go_quiet (fail);go_wp2;go_end0;exact⟨rfl,m,.refl HIN,HM.like ⟨rfl,rfl,rfl,rfl⟩⟩
theorem dO(h:Mx w0 P w B m)(hi:Inv K m)(h456:m.st=4∨m.st=5∨m.st=6)(rep:Bool)(gF cl yo ne d0 d1 d2 d3 d4 d5:Int)(sa:Option Addr)(n sc:Nat)(sv:Int):
  f_ Vh 246 #[p_ B,.agg (rD rep gF cl yo ne d0 d1 d2 d3 d4 d5 sa n sc sv)] w fun ee w'=>ee=.returned (.tuple #[])/\∃mz,Step K m mz/\Mx w0 P w' B mz:=by
 have hm:=h.alloc (.cells (rD rep gF cl yo ne d0 d1 d2 d3 d4 d5 sa n sc sv) 269);obtain⟨v,hv⟩:=ex_ (w.alloc (.cells (rD rep gF cl yo ne d0 d1 d2 d3 d4 d5 sa n sc sv) 269));have hrow:v.heap[w.heap.size]?=some (.cells (rD rep gF cl yo ne d0 d1 d2 d3 d4 d5 sa n sc sv) 269 (0,0)):=by rw[hv];exact aS6 w (.cells (rD rep gF cl yo ne d0 d1 d2 d3 d4 d5 sa n sc sv) 269)
 have HBV:Hid (gm w.heap.size w v):=M0 (by rw[hv];exact(aS8 _ _).alloc (aS5 _) _);have nk:=h.nk;have hB:=h.lt;have hne:B≠w.heap.size:=aU4 hB;rw[<-hv]at hm;have HM:=M0 hm;have HROW:=M0 hrow;have HKS:Hid (∀u,gm v.heap.size v u->(c_ u B 25 (.int .i64 m.st)/\c_ u B 26 (.int .u32 m.gF)/\c_ u B 27 (.int .u32 m.iB)/\c_ u B 28 (.int .u32 m.iO)/\c_ u B 29 (.int .i64 m.ws)/\c_ u B 30 (.int .i64 m.wu)/\c_ u B 31 (.int .i64 m.gr)/\c_ u B 32 (.int .u32 m.mask)/\c_ u B 33 (.int .u32 m.yz)/\c_ u B 34 (.int .u32 m.FJ)/\c_ u B 35 (.bool m.ends)/\c_ u B 36 (.int .u32 m.old)/\c_ u B 37 (.int .u32 m.iZ)/\c_ u B 38 (.int .u32 m.over)/\c_ u B 39 (.int .i64 m.asked))/\u.cell? (a_ w.heap.size 3)=some (.int .u32 yo)/\u.cell? (a_ w.heap.size 12)=some (.int .u32 sv)):=M0 (fun u hb=>by
  have hu:=hm.below hb
  have q:=Af ((hb.block w.heap.size (aT3 hrow)).trans hrow)
  exact⟨⟨hu.nk,hu.sw,hu.uF,hu.c28,hu.yg,hu.yE,hu.c31,hu.c32,hu.qd,hu.c34,hu.Qu,hu.Qw,hu.c37,hu.Qx,hu.TF⟩,q.1,q.2⟩)
 have HI:=M0 (fun s=>bU s m sv v.drew);have HV:=M0 hv;have HIN:=M0 hi;clear h hv hrow hm hi
 rcases h456 with e|e|e
 all_goals
  rw[e]at nk HKS;clear e;go_enter func246,ntmps246;go_wp2;rw[<-gB HV];first
   |(go_region_held3 (fun u=>(c_ u B 25 (.int .i64 4)/\c_ u B 26 (.int .u32 m.gF)/\c_ u B 27 (.int .u32 m.iB)/\c_ u B 28 (.int .u32 m.iO)/\c_ u B 29 (.int .i64 m.ws)/\c_ u B 30 (.int .i64 m.wu)/\c_ u B 31 (.int .i64 m.gr)/\c_ u B 32 (.int .u32 m.mask)/\c_ u B 33 (.int .u32 m.yz)/\c_ u B 34 (.int .u32 m.FJ)/\c_ u B 35 (.bool m.ends)/\c_ u B 36 (.int .u32 m.old)/\c_ u B 37 (.int .u32 m.iZ)/\c_ u B 38 (.int .u32 m.over)/\c_ u B 39 (.int .i64 m.asked))/\u.cell? (a_ w.heap.size 3)=some (.int .u32 yo)/\u.cell? (a_ w.heap.size 12)=some (.int .u32 sv)) (first|exact HKS _ ((aS8 _ _).drew)|exact HKS _ HB1)
      (first|(go_at_call 265;refine(HI _).mono ?_;rintro ee u ⟨bb,rfl,hb⟩;have HB1:=M0 (((aS8 v.heap.size v).drew).trans hb);clear hb)))
   |(go_region_held3 (fun u=>(c_ u B 25 (.int .i64 5)/\c_ u B 26 (.int .u32 m.gF)/\c_ u B 27 (.int .u32 m.iB)/\c_ u B 28 (.int .u32 m.iO)/\c_ u B 29 (.int .i64 m.ws)/\c_ u B 30 (.int .i64 m.wu)/\c_ u B 31 (.int .i64 m.gr)/\c_ u B 32 (.int .u32 m.mask)/\c_ u B 33 (.int .u32 m.yz)/\c_ u B 34 (.int .u32 m.FJ)/\c_ u B 35 (.bool m.ends)/\c_ u B 36 (.int .u32 m.old)/\c_ u B 37 (.int .u32 m.iZ)/\c_ u B 38 (.int .u32 m.over)/\c_ u B 39 (.int .i64 m.asked))/\u.cell? (a_ w.heap.size 3)=some (.int .u32 yo)/\u.cell? (a_ w.heap.size 12)=some (.int .u32 sv)) (first|exact HKS _ ((aS8 _ _).drew)|exact HKS _ HB1)
      (first|(go_at_call 265;refine(HI _).mono ?_;rintro ee u ⟨bb,rfl,hb⟩;have HB1:=M0 (((aS8 v.heap.size v).drew).trans hb);clear hb)))
   |(go_region_held3 (fun u=>(c_ u B 25 (.int .i64 6)/\c_ u B 26 (.int .u32 m.gF)/\c_ u B 27 (.int .u32 m.iB)/\c_ u B 28 (.int .u32 m.iO)/\c_ u B 29 (.int .i64 m.ws)/\c_ u B 30 (.int .i64 m.wu)/\c_ u B 31 (.int .i64 m.gr)/\c_ u B 32 (.int .u32 m.mask)/\c_ u B 33 (.int .u32 m.yz)/\c_ u B 34 (.int .u32 m.FJ)/\c_ u B 35 (.bool m.ends)/\c_ u B 36 (.int .u32 m.old)/\c_ u B 37 (.int .u32 m.iZ)/\c_ u B 38 (.int .u32 m.over)/\c_ u B 39 (.int .i64 m.asked))/\u.cell? (a_ w.heap.size 3)=some (.int .u32 yo)/\u.cell? (a_ w.heap.size 12)=some (.int .u32 sv)) (first|exact HKS _ ((aS8 _ _).drew)|exact HKS _ HB1)
      (first|(go_at_call 265;refine(HI _).mono ?_;rintro ee u ⟨bb,rfl,hb⟩;have HB1:=M0 (((aS8 v.heap.size v).drew).trans hb);clear hb)))
  have HMu:=M0 (HM.below HB1);have HDR:=M0 (tO HMu);clear HM HKS HI
  cases bb with
  |true=>
   go_wp2_with fail;refine on_ HDR ?_;rintro u2 ⟨b,hu⟩;have HU:=M0 hu;clear hu HDR;go_wp2;go_end0;exact⟨rfl,_,.drop HIN b,HU⟩
  |false=>
   go_wp2;go_end0;exact⟨rfl,m,.refl HIN,HMu⟩
end Js
namespace Js
open Bs
open yJ (pF kS)
variable{K:Nat→Nat} {w0:fV} {P:Nat→Prop} {w w':fV} {B:Nat} {m m' mz:Mc}
theorem VK(ho:m.Ok){os:Dh.gU}{ne sv t:Int}(ht:pF os=some t)(hne:0<=ne/\ne<=4294967295)(hsv:0<=sv/\sv<=4294967295):
  (0<=(kS os ne sv t).ma/\(kS os ne sv t).ma<=4294967295)/\(0<=(kS os ne sv t).ro/\(kS os ne sv t).ro<=4294967295)/\(0<=(kS os ne sv t).im/\(kS os ne sv t).im<=4294967295)/\(0<=(kS os ne sv t).old/\(kS os ne sv t).old<=4294967295)/\(0<=(kS os ne sv t).iZ/\(kS os ne sv t).iZ<=4294967295)/\(0<=(kS os ne sv t).over/\(kS os ne sv t).over<=4294967295):=by
 have l:({m with st:=2,cd:=.map [],phase:=0}:Mc).Late:=⟨by cases ho;constructor<;>assumption,aT7 (aT7 (aT2 rfl)),rfl,aT2 rfl⟩;have q:=(JM l rfl os ne sv hne hsv).ok;unfold Mc.yQ at q;rw[ht]at q;dsimp only at q;unfold Mc.ask Mc.send Mc.sent at q
 split at q
 ·exact⟨q.mask,q.yz,q.FJ,q.old,q.iZ,q.over⟩
 exact⟨q.mask,q.yz,q.FJ,q.old,q.iZ,q.over⟩
theorem Step.ask(h:Inv K m)(a:Int):Step K m (m.ask a):=.sent h ⟨_,2054,_,rfl,rfl,Cq _ _ rfl _ _ rfl _,aT2 rfl⟩
theorem Step.grants(h:Inv K m)(hst:m.st=2){os:Dh.gU}{ne sv t:Int}(ht:pF os=some t)(hne:0<=ne/\ne<=4294967295)(hsv:0<=sv/\sv<=4294967295):Step K m (m.grants sv (kS os ne sv t)):=by
 obtain⟨b1,b2,b3,b4,b5,b6⟩:=VK h.ok ht hne hsv;have o:=h.ok;have l:=h.low (by omega);exact .quiet ⟨⟨o.draw,o.id,o.gF,o.iB,hsv,o.ws,b1,b2,b3,b4,b5,b6,o.fs,o.sF,o.sT,o.sL⟩,h.port,h.Wl,h.TE,h.bE,fun _=>l,h.img,h.gQ,h.cap,(by show(0:Int)<=3/\(3:Int)<=6;decide)⟩ rfl (aT2 rfl) ⟨rfl,rfl,rfl,rfl,rfl,rfl,rfl⟩
theorem Step.yQ(h:Inv K m)(hst:m.st=2)(os:Dh.gU){ne sv:Int}(hne:0<=ne/\ne<=4294967295)(hsv:0<=sv/\sv<=4294967295):Step K m (m.yQ os ne sv):=by
 unfold Mc.yQ
 cases ht:pF os with
 |none=>exact .refl h
 |some t=>exact(Step.grants h hst ht hne hsv).trans (.ask (Step.grants h hst ht hne hsv).inv _)
theorem Step.bk4(h:Inv K m)(hst:4<=m.st){os:Dh.gU}{ne sv t:Int}(ht:pF os=some t)(hne:0<=ne/\ne<=4294967295)(hsv:0<=sv/\sv<=4294967295):Step K m (m.granted sv (kS os ne sv t)):=by
 obtain⟨b1,b2,b3,b4,b5,b6⟩:=VK h.ok ht hne hsv;have o:=h.ok;unfold Mc.granted;rw[aT4 (by omega)];refine .quiet ⟨⟨o.draw,o.id,o.gF,o.iB,hsv,o.ws,b1,b2,b3,b4,b5,b6,o.fs,o.sF,o.sT,o.sL⟩,h.port,h.Wl,h.TE,h.bE,fun e=>absurd e (by show ¬(4:Int)<4;decide),h.img,h.gQ,h.cap,(by show(0:Int)<=4/\(4:Int)<=6;decide)⟩ rfl (aT7 ?_) ⟨rfl,rfl,rfl,rfl,rfl,rfl,rfl⟩;rw[aJ hst];rfl
theorem Step.offers(h:Inv K m)(hst:m.st=1){yo sv:Int}(hy:0<=yo/\yo<=4294967295)(hsv:0<=sv/\sv<=4294967295)(os:Dh.gU):Step K m ((m.offers yo sv).oV.jR.say 3 os):=by
 have l:=h.low (by omega);have a:Step K m (m.offers yo sv).oV:=.quiet ⟨(h.ok.offers yo sv hy hsv).oV,h.port,h.Wl,h.TE,by show Cd _ m.cd;rw[l.1];exact Cd.nil _,fun _=>l,h.img,h.gQ,h.cap,(by show(0:Int)<=2/\(2:Int)<=6;decide)⟩ rfl (aT2 rfl) ⟨rfl,rfl,rfl,rfl,rfl,rfl,rfl⟩;exact a.trans ((Step.jR a.inv (by show(0:Int)<=3;decide)).trans (.say (Step.jR a.inv (by show(0:Int)<=3;decide)).inv _ _))
theorem kD(h:Mx w0 P w B m)(hi:Inv K m)(hst:4<=m.st)(rep:Bool)(gF cl yo ne d0 d1 d2 d3 d4 d5:Int)(sa:Option Addr)(sc:Nat)(os:Dh.gU)(sv:Int)(hA:Dh.At w sa os)(hl:Dh.heavy os<=268435456)(hne:0<=ne/\ne<=4294967295)(hsv:0<=sv/\sv<=4294967295):
  f_ Vh 266 #[p_ B,.agg (rD rep gF cl yo ne d0 d1 d2 d3 d4 d5 sa os.length sc sv)] w fun ee w'=>ee=.returned (.tuple #[])/\∃mz,Step K m mz/\Mx w0 P w' B mz:=by
 cases ht:pF os with
 |none=>
  refine on_ (M9 h rep gF cl yo ne d0 d1 d2 d3 d4 d5 sa sc os sv hA hl ht) fun u hu=>?_;exact⟨rfl,m,.refl hi,hu⟩
 |some t=>
  refine on_ (dE h hi.ok.iB rep gF cl yo ne d0 d1 d2 d3 d4 d5 sa sc os sv hA hl (MK hl 3) t ht) fun u hu=>?_;exact⟨rfl,_,.bk4 hi hst ht hne hsv,hu⟩
theorem dw(h:Mx w0 P w B m)(hi:Inv K m)(load:ByteArray)(hl:load.size<=262144):f_ Vh 188 #[p_ B,.string load] w fun ee w'=>ee=.returned (.tuple #[])/\∃mz,Step K m mz/\Mx w0 P w' B mz:=by
 rcases RC.dh.Vo load hl with⟨k,hk,hR,_⟩|⟨rep,gF,cl,yo,ne,d0,d1,d2,d3,d4,d5,os,⟨hh,hy,hne,_⟩,hR,_⟩
 ·refine on_ (yt h load k hk hR) fun u hu=>?_
  exact⟨rfl,m,.refl hi,hu⟩
 refine Bv (Z:=Step K m) h load rep gF cl yo ne d0 d1 d2 d3 d4 d5 os hh hR (fun _=>.refl hi) ?_;intro b s0 s1 s2 s3 hf hb hs;have hsv:=MR s0 s1 s2 s3;refine⟨fun _ _ _=>.refl hi,fun sa sc=>⟨fun k2 w0 P u hu hA=> ?_,fun k5 w0 P u hu hA=> ?_,fun k6 w0 P u hu hA=> ?_⟩⟩
 ·by_cases h1:m.st=1
  ·by_cases hy0:yo=0
   ·refine on_ (AJ hu h1 rep gF cl yo ne d0 d1 d2 d3 d4 d5 sa os.length sc _ hy0) fun v hv=>?_
    exact⟨rfl,m,.refl hi,hv⟩
   refine on_ (Bj hu hi.ok h1 rep gF cl yo ne d0 d1 d2 d3 d4 d5 sa os.length sc _ hy0 hy hsv) fun v hv=>?_;exact⟨rfl,_,.offers hi h1 hy hsv _,hv⟩
  refine on_ (v_ hu h1 rep gF cl yo ne d0 d1 d2 d3 d4 d5 sa os.length sc _) fun v hv=>?_;exact⟨rfl,m,.refl hi,hv⟩
 ·by_cases h2:m.st=2
  ·refine on_ (EJ hu h2 hi.ok.iB rep gF cl yo ne d0 d1 d2 d3 d4 d5 sa sc os _ hA hh (MK hh 3)) fun v hv=>?_
   refine⟨rfl,_,?_,hv⟩
   split
   ·exact .yQ hi h2 os hne hsv
   exact .refl hi
  by_cases h56:m.st=5∨m.st=6
  ·exact dQ hu hi h56 rep gF cl yo ne d0 d1 d2 d3 d4 d5 sa os.length sc _ (fun u2 hu2 hb=>kD hu2 hi (by omega) rep gF cl yo ne d0 d1 d2 d3 d4 d5 sa sc os _ (hA.below hb (aS5 _)) hh hne hsv)
  refine on_ (AP hu h2 (by omega) (by omega) rep gF cl yo ne d0 d1 d2 d3 d4 d5 sa os.length sc _) fun v hv=>?_;exact⟨rfl,m,.refl hi,hv⟩
 by_cases h2:m.st=2
 ·refine on_ (EH hu h2 rep gF cl yo ne d0 d1 d2 d3 d4 d5 sa os.length sc _) ?_
  rintro v ⟨b',hv⟩;refine⟨rfl,_,?_,hv⟩
  split
  ·exact .drop hi b'
  exact .at hi b'
 by_cases h456:m.st=4∨m.st=5∨m.st=6
 ·exact dO hu hi h456 rep gF cl yo ne d0 d1 d2 d3 d4 d5 sa os.length sc _
 refine on_ (zF hu h2 (by omega) (by omega) (by omega) rep gF cl yo ne d0 d1 d2 d3 d4 d5 sa os.length sc _) fun v hv=>?_;exact⟨rfl,m,.refl hi,hv⟩
end Js
namespace Js
open Bs
variable{K:Nat→Nat} {w0:fV} {P:Nat→Prop} {w w':fV} {B:Nat} {m m' mz:Mc}
def Te(w:fV):Prop:=(∃ev,w.cell? (a_ 8 0)=some ev/\(ev=.nilIface∨∃te pe,ev=.iface te pe))/\∃ev,w.cell? (a_ 9 0)=some ev/\(ev=.nilIface∨∃te pe,ev=.iface te pe)
theorem Te.of(h:Te w)(e1:w'.heap[(8:Nat)]?=w.heap[(8:Nat)]?)(e2:w'.heap[(9:Nat)]?=w.heap[(9:Nat)]?):Te w':=by
 obtain⟨⟨a,h1,h2⟩,b,h3,h4⟩:=h;exact⟨⟨a,by rw[aT6 e1];exact h1,h2⟩,b,by rw[aT6 e2];exact h3,h4⟩
structure Ty (w0:fV) (P:Nat->Prop):Prop where
 te:Te w0
 n8: ¬P 8
 n9: ¬P 9
theorem CP{k:Nat}{v:Value}(h:w.cell? (a_ k 0)=some v):k<w.heap.size:=by
 obtain⟨c,e,fr,hb,_⟩:=Go.Sort.cells_of_cell? h;exact aT3 hb
theorem Ty.lt(h:Ty w0 P):8<w0.heap.size/\9<w0.heap.size:=by
 obtain⟨⟨⟨a,h1,_⟩,b,h3,_⟩,_,_⟩:=h;exact⟨CP h1,CP h3⟩
theorem Ty.at(h:Ty w0 P)(k:Mx w0 P w B m):Te w:=h.te.of (k.kept _ h.lt.1 h.n8) (k.kept _ h.lt.2 h.n9)
theorem Ty.base(h:Ty w0 P)(k:Mx w0 P w B m):Ty w (iq B m):=by
 refine⟨h.at k,fun hf=> ?_,fun hf=> ?_⟩
 ·rcases k.own _ hf with e|e
  ·exact h.n8 e
  have:=h.lt.1;omega
 rcases k.own _ hf with e|e
 ·exact h.n9 e
 have:=h.lt.2;omega
theorem eP(s:ByteArray)(hl:s.size<=1048576)(w:fV)(ht:Tb w)(he:Te w):
  f_ Vh 290 #[.string s] w fun e w'=>∃n b,e=.returned (.tuple #[.int .i64 n,.bool b])/\(b=true->0<=n/\n<=9999999)/\gm w.heap.size w w':=by
 cases ha:Lib.atoiAll s.data.toList with
 |ok v=>
  have HA:Hid (f_ Vh 306 #[.string s] w fun e w'=>e=.returned (.tuple #[.int .i64 v,.nilIface])/\gm w.heap.size w w'):=M0 ((Sf.strconv_Atoi_ok s (by omega) v ha w).mono (by
   rintro e w' ⟨rfl,rfl|⟨t,rfl⟩⟩
   ·exact⟨rfl,aS8 _ _⟩
   exact⟨rfl,Lib.bytesWorld_below w _ t⟩))
  have HN:=M0 (fun u=>EA v 0 9999999 u)
  cases hin:(decide ((0:Int)<=v) && decide (v<=9999999))with
  |false=>
   rw[hin]at HN;clear ha hl ht he hin;go_enter func290,ntmps290;go_wp2_with fail;refine on_ HA fun u hb=>?_;have HB:=M0 hb;clear hb;go_wp2_with fail;refine(HN _).mono ?_;rintro ee u1 ⟨rfl,rfl⟩;go_wp2;go_ret2;exact⟨_,_,rfl,(fun e=>by cases e),HB⟩
  |true=>
   rw[hin]at HN;have hv:0<=v/\v<=9999999:=by simpa using hin
   have HI:Hid (∀u,gm w.heap.size w u->f_ Vh 180 #[.int .i64 v] u fun e w'=>e=.returned (.string ⟨(Lib.itoa v).toArray⟩)/\gm u.heap.size u w'):=M0 (fun u hu=>ZE v (by omega) u (ht.below hu (aS5 _)));obtain⟨z,hz⟩:∃z:ByteArray,z=⟨(Lib.itoa v).toArray⟩:=⟨_,rfl⟩;rw[<-hz]at HI;have HV:=M0 hv;clear ha hl ht he hin hz hv;go_enter func290,ntmps290;go_wp2_with fail;refine on_ HA fun u hb=>?_;have HB:=M0 hb;clear hb;go_wp2_with fail;refine(HN _).mono ?_;rintro ee u1 ⟨rfl,rfl⟩;go_wp2_with fail;refine on_ (HI _ HB) fun u2 hb2=>?_;have HB2:=M0 (HB.trans (hb2.mono HB.size));clear hb2;go_wp2;all_goals go_ret2
   all_goals first
    |exact⟨_,_,rfl,(fun _=>gB HV),HB2⟩
    |exact⟨_,_,rfl,(fun e=>by cases e),HB2⟩
 |«syntax» =>
  obtain⟨ev,h1,h2⟩:=he.1;have HA:=M0 (Sf.strconv_Atoi_syntax s (by omega) ha ev w h1 h2);clear ha hl ht he h1 h2;go_enter func290,ntmps290;go_wp2_with fail;refine HA.mono ?_;rintro ee u ⟨N,rfl,_,_,hb⟩;have HB:=M0 hb;clear hb;go_wp2;go_ret2;exact⟨_,_,rfl,(fun e=>by cases e),HB⟩
 |range=>
  obtain⟨ev,h1,h2⟩:=he.2;have HA:=M0 (Sf.strconv_Atoi_range s (by omega) ha ev w h1 h2);clear ha hl ht he h1 h2;go_enter func290,ntmps290;go_wp2_with fail;refine HA.mono ?_;rintro ee u ⟨N,rfl,_,_,hb⟩;have HB:=M0 hb;clear hb;go_wp2;go_ret2;exact⟨_,_,rfl,(fun e=>by cases e),HB⟩
def Mc.sized(m:Mc)(b n:Int):Mc:={m with Be:=b,Od:=n}
theorem zA(h:Mx w0 P w B m)(hq:Tq w0 P)(hy:Ty w0 P)(nm v:ByteArray)(hv:v.size<=1048576):
  f_ Vh 267 #[p_ B,.agg #[.string nm,.string v]] w fun ee w'=>∃c b n,ee=.returned (.int .u16 c)/\(c=0∨c=3∨c=8)/\Mx w0 P w' B (m.sized b n):=by
 have HM:=M0 h;have HD:Hid (∀u,Mx w0 P u B m->f_ Vh 290 #[.string v] u fun e w'=>∃n b,e=.returned (.tuple #[.int .i64 n,.bool b])/\(b=true->0<=n/\n<=9999999)/\gm u.heap.size u w'):=M0 (fun u hu=>eP v hv u (hq.at hu) (hy.at hu));have HN:=M0 (fun n a c u=>EA n a c u);clear h hv hq hy;go_enter func267,ntmps267;go_wp2_with fail;refine(HD _ (HM.alloc _)).mono ?_;rintro ee u ⟨n,b,rfl,_,hb⟩;have hcc:=WM.iF hb;have H1:=M0 ((HM.alloc _).below hb);have c8:=H1.c8;have c10:=H1.c10;have c11:=H1.c11;have Ue:=H1.Ue;have f43:=H1.free 43;have Us:=H1.Us;have f44:=H1.free 44;clear hb HD HM
 cases b with
 |false=>
  go_wp2;go_ret;exact⟨_,_,_,rfl,aT7 (aT7 rfl),H1⟩
 |true=>
  go_wp2_with (first|(go_at_call 81;refine(HN _ _ _ _).mono ?_;rintro ee u1 ⟨rfl,rfl⟩)|go_in);all_goals go_ret
  all_goals first
   |exact⟨_,_,_,rfl,aT2 rfl,H1⟩
   |exact⟨_,_,_,rfl,aT7 (aT2 rfl),H1⟩
   |exact⟨_,_,_,rfl,aT7 (aT7 rfl),H1⟩
   |exact⟨_,_,m.Od,rfl,aT2 rfl,H1.s43 _⟩
   |exact⟨_,m.Be,_,rfl,aT2 rfl,H1.s44 _⟩
theorem gp(c:Int)(w:fV):f_ Vh 250 #[.int .u16 c] w fun ee w'=>∃z:ByteArray,ee=.returned (.string z)/\z.size<=10/\w'=w:=by
 go_enter func250,ntmps250;go_wp2;all_goals first|go_returns|go_ret
 all_goals exact⟨_,rfl,by decide,rfl⟩
theorem VH(g:Tf.RH):(⟨(Tf.U7 g).toArray⟩:ByteArray).size<=1472:=by
 rw[Ho.strSize];unfold Tf.U7
 split
 ·rename_i h
  unfold Tf.UU at h
  split at h
  ·cases h
  split at h
  ·cases h
  split at h
  ·cases h
  omega
 simp
theorem five{u:fV}{g:Nat}{t:TypeId}{a0 a1 a2 a3 a4:Value}(h:u.heap[g]?=some (.cells #[a0,a1,a2,a3,a4] t (0,0))):u.cell? (a_ g 0)=some a0/\u.cell? (a_ g 1)=some a1/\u.cell? (a_ g 2)=some a2/\u.cell? (a_ g 3)=some a3/\u.cell? (a_ g 4)=some a4:=aF3 h
theorem bK(h:Mx w0 P w B m)(hi:Inv K m)(hst:4<=m.st)(pt c:Int)(hp:0<=pt/\pt<=65535)(hc:0<=c/\c<=65535):f_ Vh 224 #[p_ B,.int .u16 pt,.int .u16 c] w fun ee w'=>ee=.returned (.tuple #[])/\∃mz,(Step K m mz/\Kp m mz)/\Mx w0 P w' B mz:=by
 have HM:=M0 h;have HI:=M0 hi;have HST:=M0 hst;have HC:=M0 hc;have HP:=M0 hp;have hlt:=h.lt;have hnf: ¬iq B m w.heap.size:=fun hf=>bh8 _ (h.ik hf);clear h hi hst hc hp;go_enter func224,ntmps224;go_wp2_with fail;refine(gp c w).mono ?_;rintro ee u ⟨z,rfl,hz,rfl⟩;go_wp2;obtain⟨X,hX⟩:=ex_ (u.alloc (.cells (rG 5 c z ⟨#[]⟩ none 0 0) 96 (0,0)));have HMX:Hid (Mx w0 P X B m):=M0 (by rw[hX];exact HM.alloc _);have HR:Hid (X.heap[u.heap.size]?=some (.cells (rG 5 c z ⟨#[]⟩ none 0 0) 96 (0,0))):=M0 (by rw[hX];exact aS6 u _);rw[<-hX];obtain⟨g,hg⟩:∃g:Tf.RH,g=⟨5,c.toNat,z.data.toList,[],[]⟩:=⟨_,rfl⟩;have HW:Hid (∀u2,Mx w0 P u2 B m->f_ Vh 179 #[p_ B,.int .u16 pt,.agg (rG 5 c z ⟨#[]⟩ none 0 0)] u2 fun ee w'=>ee=.returned (.agg (rI m.port pt ⟨(Tf.U7 g).toArray⟩))/\gm u2.heap.size u2 w'):=M0 (fun u2 hu2=>by
  subst hg
  exact Yw hu2 pt 5 c z ⟨#[]⟩ none 0 ⟨5,c.toNat,z.data.toList,[],[]⟩ rfl (Int.toNat_of_nonneg HC.1) HC.1 HC.2 rfl rfl (fun i hi=>absurd hi (Nat.not_lt_zero _)) (by show Tf.lF []<=1048576;decide) (by show z.data.toList.length<=1048576;rw[jc];omega) (aV3 _))
 have HT:Hid (∀(w0:fV) (P:Nat->Prop) u2,Mx w0 P u2 B m->f_ Vh 143 #[p_ B,.int .u32 m.FJ,.agg (rI m.port pt ⟨(Tf.U7 g).toArray⟩)] u2 fun ee w'=>ee=.returned (.tuple #[])/\∃mz,(Step K m mz/\Kp m mz)/\Mx w0 P w' B mz):=M0 (fun w0 P u2 hu2=>bG hu2 HI HST m.port pt _ HI.ok.FJ HI.port HP (aT9 (VH g) (by decide)));obtain⟨R,hRR⟩:∃R:ByteArray,R=⟨(Tf.U7 g).toArray⟩:=⟨_,rfl⟩;rw[<-hRR]at HW HT;clear hX hg hRR hz;have HK:Hid (∀v,gm X.heap.size X v->c_ v u.heap.size 0 (.int .u16 5)/\c_ v u.heap.size 1 (.int .u16 c)/\c_ v u.heap.size 2 (.string z)/\c_ v u.heap.size 3 (.string ⟨#[]⟩)/\c_ v u.heap.size 4 (.slice none 0 0)):=M0 (fun v hb=>five ((hb.block _ (gG HR)).trans HR));have HKT:Hid (∀y v mz,gm X.heap.size X y->Mx y (iq B m) v B mz->c_ v u.heap.size 0 (.int .u16 5)/\c_ v u.heap.size 1 (.int .u16 c)/\c_ v u.heap.size 2 (.string z)/\c_ v u.heap.size 3 (.string ⟨#[]⟩)/\c_ v u.heap.size 4 (.slice none 0 0)):=M0 (fun y v mz hb hv=>five ((hv.kept _ (aU1 (gG HR) hb.size) hnf).trans ((hb.block _ (gG HR)).trans HR)));go_region_held3 (fun v=>c_ v u.heap.size 0 (.int .u16 5)/\c_ v u.heap.size 1 (.int .u16 c)/\c_ v u.heap.size 2 (.string z)/\c_ v u.heap.size 3 (.string ⟨#[]⟩)/\c_ v u.heap.size 4 (.slice none 0 0)) (first|exact HK _ ((aS8 _ _).drew)|exact HK _ HB1|exact HK _ HB1.drew|exact HKT _ _ _ HBY H3)
  (first|(go_at_call 144;refine aV5 (XA (m:=m) (w0:=w0) (P:=P) ?_) ?_;(first|exact HMX.drew|exact gB H1|exact H1.drew);rintro ee u5 ⟨rfl,rfl⟩)|(go_at_call 179;refine aV5 (HW _ ?_) ?_;(exact HMX.drew);rintro ee u1 ⟨rfl,hb1⟩;have HB1:=M0 (((aS8 X.heap.size X).drew).trans hb1);have H1:=M0 (HMX.drew.below hb1);clear hb1)|(go_at_call 143;(first|(have HBY:=M0 (gB HB1);have HY:=M0 (gB H1);refine(HT _ _ _ HY.base).mono ?_)|(have HBY:=M0 HB1.drew;have HY:=M0 H1.drew;refine(HT _ _ _ HY.base).mono ?_));rintro ee u3 ⟨rfl,mz,hzz,h3⟩;have H3:=M0 h3;have HZ:=M0 hzz;clear h3 hzz))
 go_wp2;go_end0;exact⟨rfl,mz,HZ,HY.join H3⟩
theorem aZ(h:Mx w0 P w B m)(hi:Inv K m)(hst:4<=m.st)(pt c:Int)(hp:0<=pt/\pt<=65535)(hc:0<=c/\c<=65535):f_ Vh 268 #[p_ B,.int .u16 pt,.int .u16 c] w fun ee w'=>ee=.returned (.tuple #[])/\∃mz,Step K m mz/\Mx w0 P w' B mz:=by
 have HR:=M0 (bK h hi hst pt c hp hc);clear h hi hst hp hc;go_enter func268,ntmps268;go_wp2_with fail;refine on_ HR ?_;rintro u ⟨m1,hz,hu⟩;have HZ:=M0 hz;have HF:=M0 (oM hu);clear hz hu HR;go_wp2_with fail;refine on_ HF ?_;rintro u2 ⟨b,hu2⟩;have HU:=M0 hu2;clear hu2 HF;go_wp2;go_end0;exact⟨rfl,_,HZ.1.trans (.fail HZ.1.inv b),HU⟩
theorem bP(h:Mx w0 P w B m)(hi:Inv K m)(op bl:Int)(ts ds:ByteArray)(sl:Value)(pt:Int):f_ Vh 247 #[p_ B,.agg #[.int .u16 op,.int .u16 bl,.string ts,.string ds,sl,.int .u16 pt]] w fun ee w'=>ee=.returned (.tuple #[])/\∃mz,Step K m mz/\Mx w0 P w' B mz:=by
 have HF:=M0 (oM (h.alloc (.cells #[.int .u16 op,.int .u16 bl,.string ts,.string ds,sl,.int .u16 pt] 274)));have HI:=M0 hi;clear h hi;go_enter func247,ntmps247;go_wp2_with fail;refine on_ HF ?_;rintro u2 ⟨b,hu2⟩;have HU:=M0 hu2;clear hu2 HF;go_wp2;go_end0;exact⟨rfl,_,.fail HI b,HU⟩
theorem Step.got(h:Inv K m)(v:Value)(D:List UInt8)(hc:(m.ql.length:Int)+D.length<=m.cap)(hp:m.phase≠3):Step K m (m.got v D):=by
 refine .quiet ⟨?_,h.port,h.Wl,QQ _,h.bE,h.low,by show((m.ql++D).length:Int)<=m.cap;rw[aS9];omega,fun e=>absurd e hp,h.cap,h.st⟩ rfl (aT7 rfl) ⟨rfl,rfl,rfl,rfl,rfl,rfl,rfl⟩;have o:=h.ok
 cases o;constructor<;>assumption
theorem Step.done(h:Inv K m)(hst:4<=m.st)(hd:m.gQ.data.toList=Hs.Xk K m.ql):Step K m m.done:=by
 have o:=h.ok;exact .quiet ⟨⟨o.draw,o.id,o.gF,o.iB,o.iO,o.ws,o.mask,o.yz,o.FJ,o.old,o.iZ,o.over,z4,dB,dB,aV3 _⟩,dB,dB,dB,h.bE,fun e=>absurd e (by show ¬m.st<4;omega),h.img,fun _=>hd,h.cap,h.st⟩ rfl (aT7 rfl) ⟨rfl,rfl,rfl,rfl,rfl,rfl,rfl⟩
theorem aH(m:Mc):m.Xx.size<=262144:=by rw[YI];decide
theorem eU(h:Mx w0 P w B m)(hi:Inv K m)(hst:4<=m.st)(ht:Tk K w0 P)(hd:m.gQ.data.toList.length=32):f_ Vh 292 #[p_ B] w fun ee w'=>ee=.returned (.tuple #[])/\∃mz,Step K m mz/\Mx w0 P w' B mz:=by
 have h1:=hi.img;have h2:=hi.cap;refine(cK h K (ht.at h) ht.hk (by omega) hd).mono ?_;rintro ee u ⟨rfl,mz,⟨he,rfl⟩|⟨_,b,rfl⟩,hu⟩
 ·exact⟨rfl,_,.done hi hst he,hu⟩
 exact⟨rfl,_,.fail hi b,hu⟩
theorem aX(h:Mx w0 P w B m)(hi:Inv K m)(hst:4<=m.st)(hp:m.phase≠3)(ht:Tk K w0 P)(hd:m.gQ.data.toList.length=32)(s:ByteArray)(hc:(m.ql.length:Int)+s.size<=m.cap):
  f_ Vh 271 #[p_ B,.string s] w fun ee w'=>ee=.returned (.tuple #[])/\∃mz,Step K m mz/\Mx w0 P w' B mz:=by
 have h2:=hi.cap;have hz:m.ql.length+s.size<=100000000:=by omega
 have hs:∀v,Step K m (m.got v s.data.toList):=fun v=>.got hi v _ (by rw[jc];exact hc) hp
 by_cases hl:(s.size:Int)<m.Be
 ·refine aT h s hz hl (fun mz=>Step K m mz/\4<=mz.st) (fun mz=>Step K m mz) (fun v u hu=> ?_) (fun m1 u hz1 hu=> ?_)
  ·refine on_ (aF hu (hs v).inv hst (aH _)) ?_
   rintro u2 ⟨m2,hz2,hu2⟩;exact⟨rfl,m2,⟨(hs v).trans hz2.1,by rw[hz2.2.2.2.1];exact hst⟩,hu2⟩
  refine on_ (eU hu hz1.1.inv hz1.2 ht (by rw[hz1.1.fix.gQ];exact hd)) ?_;rintro u2 ⟨m2,hz2,hu2⟩;exact⟨rfl,m2,hz1.1.trans hz2,hu2⟩
 by_cases hw:wrap64 (m.since+1)=m.Od
 ·refine aS h s hz hl hw (fun mz=>Step K m mz) (fun v u hu=> ?_)
  refine on_ (aF hu (hs v).inv hst (aH _)) ?_;rintro u2 ⟨m2,hz2,hu2⟩;exact⟨rfl,m2,(hs v).trans hz2.1,hu2⟩
 refine on_ (Zp h s hz hl hw (fun v=>(hs v).inv.ok)) ?_;rintro u ⟨v,hu⟩;exact⟨rfl,_,(hs v).trans (.withheld (hs v).inv (aH _)),hu⟩
theorem dR(h:Mx w0 P w B m)(hph:m.phase=2)(op bl:Int)(ts ds:ByteArray)(sl:Value)(pt:Int)(hz:ds.size<=1048576)(hm:m.ql.length<=1048576)(Z:Mc->Prop)(HZ0:Z m)
  (HA0:∀u,Mx w0 P u B m->f_ Vh 270 #[p_ B] u fun ee w'=>ee=.returned (.tuple #[])/\∃mz,Z mz/\Mx w0 P w' B mz)
  (HG0:∀u,Mx w0 P u B m->f_ Vh 268 #[p_ B,.int .u16 pt,.int .u16 3] u fun ee w'=>ee=.returned (.tuple #[])/\∃mz,Z mz/\Mx w0 P w' B mz)
  (HB0:(m.ql.length:Int)+ds.size<=m.cap->∀u,Mx w0 P u B m->f_ Vh 271 #[p_ B,.string ds] u fun ee w'=>ee=.returned (.tuple #[])/\∃mz,Z mz/\Mx w0 P w' B mz):
  f_ Vh 249 #[p_ B,.agg #[.int .u16 op,.int .u16 bl,.string ts,.string ds,sl,.int .u16 pt]] w fun ee w'=>ee=.returned (.tuple #[])/\∃mz,Z mz/\Mx w0 P w' B mz:=by
 have HZM:=M0 HZ0;have HA:=M0 HA0;have HG:=M0 HG0;have HBB:=M0 HB0;obtain⟨X,hX⟩:=ex_ (w.alloc (.cells #[.int .u16 op,.int .u16 bl,.string ts,.string ds,sl,.int .u16 pt] 274));have HX:Hid (Mx w0 P X B m):=M0 (by rw[hX];exact h.alloc _);have hXr:X.heap[w.heap.size]?=some (.cells #[.int .u16 op,.int .u16 bl,.string ts,.string ds,sl,.int .u16 pt] 274 (0,0)):=by rw[hX];exact aS6 w _
 obtain⟨l0,l1,l2,l3,l4,l5⟩:=yO hXr;have c40:=h.c40;rw[hph]at c40;have hlt:=h.lt;have hB:B≠w.heap.size:=aU4 hlt;have Ue:=HX.Ue;have c46:=HX.c46;have c8:=HX.c8;have RX:=HX.RX;obtain⟨ao,cp,hv⟩:=Dh.ib h.image;rw[hv]at RX;clear h HZ0 HA0 HG0 HB0 hXr hph hv;go_enter func249,ntmps249;go_wp2;rw[<-hX];clear hX c40;go_quiet (fail)
 by_cases hl:(ds.size:Int)<=m.Be
 ·have hgt:decide (m.Be<(ds.size:Int))=false:=by simpa using hl
  go_wp2;go_quiet (fail)
  by_cases hn:bl=m.TE
  ·have hnb:(bl==m.TE)=true:=by simpa using hn
   go_wp2;go_quiet (fail)
   by_cases hc:(m.ql.length:Int)+ds.size<=m.cap
   ·have hgc:decide (m.cap<(m.ql.length:Int)+ds.size)=false:=by simpa using hc
    have HBC:=M0 (HBB hc);go_wp2_with fail;refine aV5 (HBC _ ?_) ?_;exact HX.like ⟨rfl,rfl,rfl,rfl⟩;rintro ee u9 ⟨rfl,mz,hzz,h4⟩;have H4:=M0 h4;have HZ:=M0 hzz;clear h4 hzz;go_wp2;go_end0;exact⟨rfl,mz,HZ,H4⟩
   have hgc:decide (m.cap<(m.ql.length:Int)+ds.size)=true:=by simpa using hc
   go_wp2_with fail;refine aV5 (HG _ ?_) ?_;exact HX.like ⟨rfl,rfl,rfl,rfl⟩;rintro ee u9 ⟨rfl,mz,hzz,h4⟩;have H4:=M0 h4;have HZ:=M0 hzz;clear h4 hzz;go_wp2;go_end0;exact⟨rfl,mz,HZ,H4⟩
  have hnb:(bl==m.TE)=false:=by simpa using hn
  go_wp2_with fail;refine aV5 (HA _ ?_) ?_;exact HX.like ⟨rfl,rfl,rfl,rfl⟩;rintro ee u9 ⟨rfl,mz,hzz,h4⟩;have H4:=M0 h4;have HZ:=M0 hzz;clear h4 hzz;go_wp2;go_end0;exact⟨rfl,mz,HZ,H4⟩
 have hgt:decide (m.Be<(ds.size:Int))=true:=by simpa using hl
 go_wp2;go_end0;exact⟨rfl,m,HZM,HX.like ⟨rfl,rfl,rfl,rfl⟩⟩
theorem dW(h:Mx w0 P w B m)(hph:m.phase=1)(op bl:Int)(hbl:bl≠1)(ts ds:ByteArray)(sl:Value)(pt:Int):
  f_ Vh 249 #[p_ B,.agg #[.int .u16 op,.int .u16 bl,.string ts,.string ds,sl,.int .u16 pt]] w fun ee w'=>ee=.returned (.tuple #[])/\Mx w0 P w' B m:=by
 have HX:=M0 (h.alloc (.cells #[.int .u16 op,.int .u16 bl,.string ts,.string ds,sl,.int .u16 pt] 274));have c40:=h.c40;rw[hph]at c40;have hlt:=h.lt;have hB:B≠w.heap.size:=aU4 hlt;have hbb:(bl==1)=false:=by simpa using hbl
 clear h hph hbl;go_enter func249,ntmps249;go_wp2;go_returns
 exact⟨rfl,HX⟩
theorem dZ{m0:Mc}{bl pt:Int}(h:Mx w0 P w B m0)(hph:m0.phase=1)(hbl:bl=1)(hm0:m=m0.Xn pt)(op:Int)(ts ds:ByteArray)(sl:Value)(hz:ds.size<=1048576)(hm:m.ql.length<=1048576)(Z:Mc->Prop)(HZ0:Z m)
  (HA0:∀u,Mx w0 P u B m->f_ Vh 270 #[p_ B] u fun ee w'=>ee=.returned (.tuple #[])/\∃mz,Z mz/\Mx w0 P w' B mz)
  (HG0:∀u,Mx w0 P u B m->f_ Vh 268 #[p_ B,.int .u16 pt,.int .u16 3] u fun ee w'=>ee=.returned (.tuple #[])/\∃mz,Z mz/\Mx w0 P w' B mz)
  (HB0:(m.ql.length:Int)+ds.size<=m.cap->∀u,Mx w0 P u B m->f_ Vh 271 #[p_ B,.string ds] u fun ee w'=>ee=.returned (.tuple #[])/\∃mz,Z mz/\Mx w0 P w' B mz):
  f_ Vh 249 #[p_ B,.agg #[.int .u16 op,.int .u16 bl,.string ts,.string ds,sl,.int .u16 pt]] w fun ee w'=>ee=.returned (.tuple #[])/\∃mz,Z mz/\Mx w0 P w' B mz:=by
 have HZM:=M0 HZ0;have HA:=M0 HA0;have HG:=M0 HG0;have HBB:=M0 HB0;obtain⟨W,hW⟩:=ex_ (w.alloc (.cells #[.int .u16 op,.int .u16 bl,.string ts,.string ds,sl,.int .u16 pt] 274));have HMW:Hid (Mx w0 P W B m0):=M0 (by rw[hW];exact h.alloc _);have HWr:Hid (W.heap[w.heap.size]?=some (.cells #[.int .u16 op,.int .u16 bl,.string ts,.string ds,sl,.int .u16 pt] 274 (0,0))):=M0 (by rw[hW];exact aS6 w _);have HL:Hid (∀u,Mx W (iq B m0) u B m0->f_ Vh 269 #[p_ B,.int .u16 pt] u fun ee w'=>ee=.returned (.tuple #[])/\Mx W (iq B m0) w' B m):=M0 (fun u hu=>by rw[hm0];exact ae2 hu pt);have c40:=h.c40;rw[hph]at c40;have hlt:=h.lt;have hB:B≠w.heap.size:=aU4 hlt;have HNF:Hid (¬iq B m0 w.heap.size):=M0 (fun hf=>bh8 _ (h.ik hf));have hbb:(bl==1)=true:=by simpa using hbl
 clear h HZ0 HA0 HG0 HB0 hph hm0 hbl;go_enter func249,ntmps249;go_wp2_with fail;rw[<-hW];refine on_ (HL _ HMW.base) fun X hx=>?_;have HX:=M0 (HMW.join hx);obtain⟨l0,l1,l2,l3,l4,l5⟩:=yO ((hx.kept _ (aT3 HWr) HNF).trans HWr);have Ue:=HX.Ue;have c46:=HX.c46;have c8:=HX.c8;have RX:=HX.RX;obtain⟨ao,cp,hv⟩:=Dh.ib HX.image;rw[hv]at RX;clear hx hW HL HMW HWr c40 hv HNF hbb;go_wp2;go_quiet (fail)
 by_cases hl:(ds.size:Int)<=m.Be
 ·have hgt:decide (m.Be<(ds.size:Int))=false:=by simpa using hl
  go_wp2;go_quiet (fail)
  by_cases hn:bl=m.TE
  ·have hnb:(bl==m.TE)=true:=by simpa using hn
   go_wp2;go_quiet (fail)
   by_cases hc:(m.ql.length:Int)+ds.size<=m.cap
   ·have hgc:decide (m.cap<(m.ql.length:Int)+ds.size)=false:=by simpa using hc
    have HBC:=M0 (HBB hc);go_wp2_with fail;refine aV5 (HBC _ ?_) ?_;exact HX.like ⟨rfl,rfl,rfl,rfl⟩;rintro ee u9 ⟨rfl,mz,hzz,h4⟩;have H4:=M0 h4;have HZ:=M0 hzz;clear h4 hzz;go_wp2;go_end0;exact⟨rfl,mz,HZ,H4⟩
   have hgc:decide (m.cap<(m.ql.length:Int)+ds.size)=true:=by simpa using hc
   go_wp2_with fail;refine aV5 (HG _ ?_) ?_;exact HX.like ⟨rfl,rfl,rfl,rfl⟩;rintro ee u9 ⟨rfl,mz,hzz,h4⟩;have H4:=M0 h4;have HZ:=M0 hzz;clear h4 hzz;go_wp2;go_end0;exact⟨rfl,mz,HZ,H4⟩
  have hnb:(bl==m.TE)=false:=by simpa using hn
  go_wp2_with fail;refine aV5 (HA _ ?_) ?_;exact HX.like ⟨rfl,rfl,rfl,rfl⟩;rintro ee u9 ⟨rfl,mz,hzz,h4⟩;have H4:=M0 h4;have HZ:=M0 hzz;clear h4 hzz;go_wp2;go_end0;exact⟨rfl,mz,HZ,H4⟩
 have hgt:decide (m.Be<(ds.size:Int))=true:=by simpa using hl
 go_wp2;go_end0;exact⟨rfl,m,HZM,HX.like ⟨rfl,rfl,rfl,rfl⟩⟩
theorem di(h:Mx w0 P w B m)(hi:Inv K m)(hf:m.lK=true)(ht:Tk K w0 P)(hd:m.gQ.data.toList.length=32)(op bl:Int)(ts ds:ByteArray)(sl:Value)(pt:Int)(hp:0<=pt/\pt<=65535)(hz:ds.size<=1048576):
  f_ Vh 249 #[p_ B,.agg #[.int .u16 op,.int .u16 bl,.string ts,.string ds,sl,.int .u16 pt]] w fun ee w'=>ee=.returned (.tuple #[])/\∃mz,Step K m mz/\Mx w0 P w' B mz:=by
 have hst:=aU hi hf;have hc:=hi.cap;have hg:=hi.img;have h12:m.phase=1∨m.phase=2:=by
  unfold Mc.lK at hf;simpa using hf
 rcases h12 with h1|h2
 ·by_cases hb:bl=1
  ·have hs:Step K m (m.Xn pt):=.quiet ⟨by have o:=hi.ok;cases o;constructor<;>assumption,hi.port,hp,hi.TE,hi.bE,fun e=>absurd e (by show ¬m.st<4;omega),hi.img,(fun e=>by cases e),hi.cap,hi.st⟩ rfl (aT7 rfl) ⟨rfl,rfl,rfl,rfl,rfl,rfl,rfl⟩
   exact dZ h h1 hb rfl op ts ds sl hz (by show m.ql.length<=1048576;omega) (fun mz=>Step K m mz) hs
    (fun u hu=>(aF hu hs.inv hst (aH _)).mono (by rintro ee u2 ⟨rfl,mz,hzz,h4⟩;exact⟨rfl,mz,hs.trans hzz.1,h4⟩))
    (fun u hu=>(aZ hu hs.inv hst pt 3 hp (by decide)).mono (by rintro ee u2 ⟨rfl,mz,hzz,h4⟩;exact⟨rfl,mz,hs.trans hzz,h4⟩))
    (fun hcc u hu=>(aX hu hs.inv hst (by show ¬(2:Int)=3;decide) ht hd ds hcc).mono (by rintro ee u2 ⟨rfl,mz,hzz,h4⟩;exact⟨rfl,mz,hs.trans hzz,h4⟩))
  refine on_ (dW h h1 op bl hb ts ds sl pt) fun u hu=>?_;exact⟨rfl,m,.refl hi,hu⟩
 exact dR h h2 op bl ts ds sl pt hz (by omega) (fun mz=>Step K m mz) (.refl hi)
  (fun u hu=>(aF hu hi hst (aH _)).mono (by rintro ee u2 ⟨rfl,mz,hzz,h4⟩;exact⟨rfl,mz,hzz.1,h4⟩))
  (fun u hu=>aZ hu hi hst pt 3 hp (by decide))
  (fun hcc u hu=>aX hu hi hst (by omega) ht hd ds hcc)
def Fl(N:Nat)(xs:List Value):Prop:=∀i,i<N->∃a b:ByteArray,xs[i*2]?=some (.string a)/\xs[i*2+1]?=some (.string b)/\b.size<=1048576
theorem bk9{bb N sc:Nat}{sa:Option Addr}{xs:List Value}(h:w.ownsRow bb 146 2 (.slice sa N sc) N xs)(hx:Fl N xs){i:Nat}(hi:i<N):∃g a b,sa=some (a_ g 0)/\w.cell? (a_ g (i*2))=some (.string a)/\w.cell? (a_ g (i*2+1))=some (.string b)/\b.size<=1048576:=by
 rcases h.2 with⟨_,h2⟩|⟨g,cap,cur,e1,e2,e3,e4,e5,e6,e7⟩
 ·omega
 injection e1 with a1 a2 a3
 obtain⟨a,b,ha,hb,hs⟩:=hx i hi;refine⟨g,a,b,a1,?_,?_,hs⟩
 ·rw[aS3 w _ _ _ _ _ e3]
  have q:(cur.toList.take (N*2))[i*2]?=xs[i*2]?:=by rw[e7]
  rw[ak (by omega),ha]at q;rw[<-ba0];exact q
 rw[aS3 w _ _ _ _ _ e3];have q:(cur.toList.take (N*2))[i*2+1]?=xs[i*2+1]?:=by rw[e7]
 rw[ak (by omega),hb]at q;rw[<-ba0];exact q
theorem Step.sized(h:Inv K m)(b n:Int):Step K m (m.sized b n):=by
 refine .quiet ⟨?_,h.port,h.Wl,h.TE,h.bE,h.low,h.img,h.gQ,h.cap,h.st⟩ rfl (aT7 rfl) ⟨rfl,rfl,rfl,rfl,rfl,rfl,rfl⟩;have o:=h.ok
 cases o;constructor<;>assumption
theorem bH(h:Mx w0 P w B m)(hi:Inv K m)(hf:m.lK=true)(hq:Tq w0 P)(hy:Ty w0 P)(op bl:Int)(ts ds:ByteArray)(N:Nat)(xs:List Value)(sa:Option Addr)(sc bb:Nat)(hft:∀k,iq B m k->k<bb)(hrow:w.ownsRow bb 146 2 (.slice sa N sc) N xs)(hxs:Fl N xs)(pt:Int)(hp:0<=pt/\pt<=65535):
  f_ Vh 248 #[p_ B,.agg (rJ op bl ts ds sa N sc pt)] w fun ee w'=>ee=.returned (.tuple #[])/\∃mz,Step K m mz/\Mx w0 P w' B mz:=by
 have hst:=aU hi hf;obtain⟨W,hW⟩:=ex_ (w.alloc (.cells (rJ op bl ts ds sa N sc pt) 274));have HMW:Hid (Mx w0 P W B m):=M0 (by rw[hW];exact h.alloc _);have HWr:Hid (W.heap[w.heap.size]?=some (.cells (rJ op bl ts ds sa N sc pt) 274 (0,0))):=M0 (by rw[hW];exact aS6 w _);have HRO:Hid (W.ownsRow bb 146 2 (.slice sa N sc) N xs):=M0 (by rw[hW];exact hrow.alloc _);have HNF:Hid (¬iq B m w.heap.size):=M0 (fun hf=>bh8 _ (h.ik hf));have c40:=h.c40;have hlt:=h.lt;have hB:B≠w.heap.size:=aU4 hlt;have HFT:=M0 hft;have HXS:=M0 hxs;have HI:=M0 hi;have HQ:=M0 hq;have HYY:=M0 hy;have HPT:=M0 hp;have hN0:(N:Int)<=9223372036854775807:=by
  rcases hrow.2 with⟨_,h2⟩|⟨g,cap,cur,e1,e2,e3,e4,e5,e6,e7⟩
  ·omega
  unfold maxLen at e5;omega
 have h12:m.phase=1∨m.phase=2:=by
  unfold Mc.lK at hf;simpa using hf
 clear h hi hf hft hxs hq hy hp hrow
 rcases h12 with e|e
 case inr=>
  rw[e]at c40;go_enter func248,ntmps248;go_wp2;go_returns
  exact⟨rfl,m,.refl HI,by rw[<-hW];exact gB HMW⟩
 case inl=>
 rw[e]at c40;clear e;go_enter func248,ntmps248;go_wp2;rw[<-hW];clear hW c40;go_loopw [16] (fun i wr=>∃(k:Nat) (b n:Int),i=.int .i64 k/\k<=N/\Hid (Mx w0 P wr B (m.sized b n))/\Hid (wr.heap[w.heap.size]?=some (.cells (rJ op bl ts ds sa N sc pt) 274 (0,0)))/\Hid (wr.ownsRow bb 146 2 (.slice sa N sc) N xs)) (fun i _=>N-(intOf i).toNat)
 case atStart=>exact⟨0,m.Be,m.Od,rfl,aV3 _,HMW,HWr,HRO⟩
 clear HMW HWr HRO;obtain⟨k,fb,fn,rfl,hk,HM,HWR,HRO⟩:=hrel;have hs:=Step.sized HI fb fn;have HS:=M0 hs;have l5:wr.cell? (a_ w.heap.size 5)=some (.int .u16 pt):=aS3 _ _ 5 _ _ _ HWR
 by_cases hkk:k<N
 ·obtain⟨g,a,b,rfl,ha,hb,hbs⟩:=bk9 HRO HXS hkk
  have hki:(k:Int)<N:=by omega
  have HA:=M0 (zA (HM.alloc (.cells #[.string a,.string b] 146)).base (HQ.base (HM.alloc _)) (HYY.base (HM.alloc _)) a b hbs);go_wp2_with fail;refine HA.mono ?_;rintro ee u ⟨c,b2,n2,rfl,hc,hu⟩;have HMu:Hid (Mx w0 P u B (m.sized b2 n2)):=M0 ((HM.alloc _).join hu);have HWRu:Hid (u.heap[w.heap.size]?=some (.cells (rJ op bl ts ds (some (a_ g 0)) N sc pt) 274 (0,0))):=M0 ((hu.kept _ (by simp;exact Nat.lt_succ_of_lt (aT3 HWR)) HNF).trans ((aT1 _ _ _ (aT3 HWR)).trans HWR));have HROu:Hid (u.ownsRow bb 146 2 (.slice (some (a_ g 0)) N sc) N xs):=M0 (iN (HRO.alloc _) (fun j hj=>hu.kept j ((HRO.alloc _).lt j hj).2 (fun hf=>by
   have h1:=HFT j hf
   have h2:=(HRO.lt j hj).1
   omega)))
  have m5:u.cell? (a_ w.heap.size 5)=some (.int .u16 pt):=aS3 _ _ 5 _ _ _ HWRu;have HSu:=M0 (Step.sized HI b2 n2);clear hu HA HM HWR HRO l5 ha hb
  by_cases hc0:c=0
  ·subst hc0
   go_wp2;go_roundw
   case rel=>exact⟨k+1,b2,n2,by go_num,by omega,HMu,HWRu,HROu⟩
   simp[intOf];omega
  have hcb:(c==0)=false:=by simpa using hc0
  have HGU:=M0 (aZ HMu HSu.inv hst pt c HPT (by omega));clear hc0 hc;go_wp2_with fail;refine on_ HGU ?_;rintro u2 ⟨mz,hzz,h4⟩;have H4:=M0 h4;have HZ:=M0 hzz;clear h4 hzz;go_wp2;go_returns
  exact⟨rfl,mz,HSu.trans HZ,H4⟩
 have e:k=N:=by omega
 subst e;have hsl:Step K m ((m.sized fb fn).Xn pt):=hs.trans (.quiet ⟨by have o:=hs.inv.ok;cases o;constructor<;>assumption,hs.inv.port,HPT,hs.inv.TE,hs.inv.bE,fun e=>absurd e (by show ¬m.st<4;omega),hs.inv.img,(fun e=>by cases e),hs.inv.cap,hs.inv.st⟩ rfl (aT7 rfl) ⟨rfl,rfl,rfl,rfl,rfl,rfl,rfl⟩);have HSL:=M0 hsl;have HL:=M0 (ae2 HM pt);clear hs hsl;go_wp2_with fail;refine on_ HL fun u hu=>?_;have HAN:=M0 (aF hu HSL.inv hst (aH _));clear hu HL HM;go_wp2_with fail;refine on_ HAN ?_;rintro u2 ⟨mz,hzz,h4⟩;have H4:=M0 h4;have HZ:=M0 hzz;clear h4 hzz HAN;go_wp2;go_end0;exact⟨rfl,mz,HSL.trans HZ.1,H4⟩
theorem ed(h:Mx w0 P w B m)(g cap:Nat)(hg:w.heap[g]?=some (.cells #[.int .u16 5,(.func (.func 247) #[] #[]),.int .u16 6,(.func (.func 248) #[] #[]),.int .u16 3,(.func (.func 249) #[] #[])] 302 (0,0)))(hF: ¬iq B m g)(op bl:Int)(ts ds:ByteArray)(sl:Value)(pt:Int)(Z:Mc->Prop)
  (hA:∀(w0:fV) (P:Nat->Prop) (u:fV),gm w.heap.size w u->Mx w0 P u B m->f_ Vh 247 #[p_ B,.agg #[.int .u16 op,.int .u16 bl,.string ts,.string ds,sl,.int .u16 pt]] u fun ee w'=>ee=.returned (.tuple #[])/\∃mz,Z mz/\Mx w0 P w' B mz):
  f_ Vh 222 #[p_ B,.slice (some (a_ g 0)) 3 cap,.int .u16 5,.agg #[.int .u16 op,.int .u16 bl,.string ts,.string ds,sl,.int .u16 pt]] w fun ee w'=>ee=.returned (.tuple #[])/\∃mz,Z mz/\Mx w0 P w' B mz:=by
 have HM:=M0 h;have HA:=M0 hA;have hl:=gG hg;have HG:=M0 hg;obtain⟨X,hX⟩:=ex_ (w.alloc (.cells #[.int .u16 op,.int .u16 bl,.string ts,.string ds,sl,.int .u16 pt] 274));have hXb:gm w.heap.size w X:=by rw[hX];exact(aS8 _ _).alloc (aS5 _) _
 have hXr:X.heap[w.heap.size]?=some (.cells #[.int .u16 op,.int .u16 bl,.string ts,.string ds,sl,.int .u16 pt] 274 (0,0)):=by rw[hX];exact aS6 w _
 have hXg:=(hXb.block g hl).trans hg;obtain⟨x0,x1,x2,x3,x4,x5⟩:=yO hXg;obtain⟨l0,l1,l2,l3,l4,l5⟩:=yO hXr;have hgX:g<X.heap.size:=gG hXg;have hwX:w.heap.size<X.heap.size:=gG hXr;have hgn:g≠X.heap.size:=aU4 hgX;have hwn:w.heap.size≠X.heap.size:=aU4 hwX;have HXB:=M0 hXb;have HXG:=M0 hXg;have HXR:=M0 hXr;clear h hg hA hXb hXr hXg hl;go_enter func222,ntmps222;go_wp2;rw[<-hX];clear hX;refine aX5 4 ?_;rw[aU9];go_wp2_with fail;have HB2:=M0 (HXB.alloc (by have:=HXB.size;simp;try omega) (.cells #[.int .u16 5,(.func (.func 247) #[] #[])] 302));have HM3:=M0 (HM.below HB2);refine on_ (HA _ _ _ HB2 HM3.base) ?_;rintro u2 ⟨mz,hz,h2⟩;have HZ:=M0 hz;clear hz;have HM2:=M0 (HM3.join h2);obtain⟨y0,y1,y2,y3,y4,y5⟩:=yO ((h2.kept g (ZB HB2 (gG HG)) hF).trans ((HB2.block g (gG HG)).trans HG));have hgu:g<u2.heap.size:=aU1 (ZB HB2 (gG HG)) h2.size;have hgu2:g≠u2.heap.size:=aU4 hgu;clear h2 x0 x1 x2 x3 x4 x5 l0 l1 l2 l3 l4 l5 HM HA HM3 HB2 HXB HXG HG;go_wp2;rw[aU9];go_wp2;rw[aU9];go_wp2;rw[aU9];go_wp2;go_end0;exact⟨rfl,mz,HZ,(HM2.alloc _).alloc _⟩
theorem dU(h:Mx w0 P w B m)(g cap:Nat)(hg:w.heap[g]?=some (.cells #[.int .u16 5,(.func (.func 247) #[] #[]),.int .u16 6,(.func (.func 248) #[] #[]),.int .u16 3,(.func (.func 249) #[] #[])] 302 (0,0)))(hF: ¬iq B m g)(op bl:Int)(ts ds:ByteArray)(sl:Value)(pt:Int)(kd:Int)(k5:kd≠5)(k6:kd≠6)(k3:kd≠3):
  f_ Vh 222 #[p_ B,.slice (some (a_ g 0)) 3 cap,.int .u16 kd,.agg #[.int .u16 op,.int .u16 bl,.string ts,.string ds,sl,.int .u16 pt]] w fun ee w'=>ee=.returned (.tuple #[])/\Mx w0 P w' B m:=by
 have b5:((5:Int)==kd)=false:=by simpa using fun e=>k5 e.symm
 have b6:((6:Int)==kd)=false:=by simpa using fun e=>k6 e.symm
 have b3:((3:Int)==kd)=false:=by simpa using fun e=>k3 e.symm
 have HM:=M0 h;have hl:=gG hg;have HG:=M0 hg;obtain⟨X,hX⟩:=ex_ (w.alloc (.cells #[.int .u16 op,.int .u16 bl,.string ts,.string ds,sl,.int .u16 pt] 274));have hXb:gm w.heap.size w X:=by rw[hX];exact(aS8 _ _).alloc (aS5 _) _
 have hXr:X.heap[w.heap.size]?=some (.cells #[.int .u16 op,.int .u16 bl,.string ts,.string ds,sl,.int .u16 pt] 274 (0,0)):=by rw[hX];exact aS6 w _
 have hXg:=(hXb.block g hl).trans hg;obtain⟨x0,x1,x2,x3,x4,x5⟩:=yO hXg;obtain⟨l0,l1,l2,l3,l4,l5⟩:=yO hXr;have hgX:g<X.heap.size:=gG hXg;have hwX:w.heap.size<X.heap.size:=gG hXr;have hgn:g≠X.heap.size:=aU4 hgX;have hwn:w.heap.size≠X.heap.size:=aU4 hwX;have HXB:=M0 hXb;have HMX:=M0 (h.below hXb);have HXG:=M0 hXg;have HXR:=M0 hXr;clear h hg hXb hXr hXg hl;go_enter func222,ntmps222;go_wp2;rw[<-hX];clear hX;refine aX5 4 ?_;rw[aU9];go_wp2;rw[aU9];go_wp2;rw[aU9];go_wp2;rw[aU9];go_wp2;go_end0;exact⟨rfl,((HMX.alloc _).alloc _).alloc _⟩
theorem cO(h:Mx w0 P w B m)(hf:m.lK=true)(id ttl pr:Int)(ld:ByteArray)(f:Int)(ld2:ByteArray)(fr ta t:Int)(hn: ¬(fr=m.FJ/\ta=m.addr/\t=m.port)):
  f_ Vh 189 #[p_ B,.agg (rU id ttl pr fr ta ld),.agg (rI f t ld2)] w fun ee w'=>ee=.returned (.tuple #[])/\Mx w0 P w' B m:=by
 obtain⟨X,hX⟩:=ex_ ((w.alloc (.cells (rU id ttl pr fr ta ld) 59)).alloc (.cells (rI f t ld2) 69));have HX:Hid (Mx w0 P X B m/\X.heap[w.heap.size]?=some (.cells (rU id ttl pr fr ta ld) 59 (0,0))/\X.heap[w.heap.size+1]?=some (.cells (rI f t ld2) 69 (0,0))):=M0 (by rw[hX];exact⟨(h.alloc _).alloc _,nA w _ _,jq w _ _⟩);have HI:=M0 (ab7 HX.1);rw[hf]at HI;have HG:=M0 (aw3 HX.1);have HA:=M0 (YO HX.1);have HFT:Hid (∀k,iq B m k->k<w.heap.size):=M0 (fun k hk=>h.ik hk);have q:=fun j=>aS3 X _ j _ _ _ HX.2.1;have i3:X.cell? (a_ w.heap.size 3)=some (.int .u32 fr):=q 3;have i4:X.cell? (a_ w.heap.size 4)=some (.int .u32 ta):=q 4;obtain⟨y0,y1,y2⟩:=Gf HX.2.2;have Uk:=HX.1.Uk;clear h q;have hq:(fr !=m.FJ)=true∨(fr !=m.FJ)=false/\(ta !=m.addr)=true∨(fr !=m.FJ)=false/\(ta !=m.addr)=false/\(t !=m.port)=true:=by
  by_cases h1:fr=m.FJ
  ·by_cases h2:ta=m.addr
   ·exact aT7 (aT7 ⟨by simpa using h1,by simpa using h2,by simpa using fun h3=>hn ⟨h1,h2,h3⟩⟩)
   exact aT7 (aT2 ⟨by simpa using h1,by simpa using h2⟩)
  exact aT2 (by simpa using h1)
 clear hn
 rcases hq with b1|⟨b1,b2⟩|⟨b1,b2,b3⟩
 all_goals
  go_enter func189,ntmps189;go_wp2;rw[<-hX];clear hX;go_quiet (first|(go_at_call 91;exact bd2 (HI _))|(go_at_call 144;exact bd2 (HG _))|(go_at_call 47;exact bd2 (HA _)));go_wp2;go_returns
  exact⟨rfl,HX.1.like ⟨rfl,rfl,rfl,rfl⟩⟩
theorem dH(h:Mx w0 P w B m)(hf:m.lK=true)(id ttl pr:Int)(ld:ByteArray)(f:Int)(ld2:ByteArray)(k:Int)(hk:k≠0)
  (hR:∀u,f_ Vh 71 #[.string ld2] u fun ee w'=>ee=.returned (.tuple #[.agg zG_,.int .i64 k])/\gm u.heap.size u w'):
  f_ Vh 189 #[p_ B,.agg (rU id ttl pr m.FJ m.addr ld),.agg (rI f m.port ld2)] w fun ee w'=>ee=.returned (.tuple #[])/\Mx w0 P w' B m:=by
 obtain⟨X,hX⟩:=ex_ ((w.alloc (.cells (rU id ttl pr m.FJ m.addr ld) 59)).alloc (.cells (rI f m.port ld2) 69));have HX:Hid (Mx w0 P X B m/\X.heap[w.heap.size]?=some (.cells (rU id ttl pr m.FJ m.addr ld) 59 (0,0))/\X.heap[w.heap.size+1]?=some (.cells (rI f m.port ld2) 69 (0,0))):=M0 (by rw[hX];exact⟨(h.alloc _).alloc _,nA w _ _,jq w _ _⟩);have HI:=M0 (ab7 HX.1);rw[hf]at HI;have HG:=M0 (aw3 HX.1);have HA:=M0 (YO HX.1);have HRR:=M0 hR;have HFT:Hid (∀k,iq B m k->k<w.heap.size):=M0 (fun k hk=>h.ik hk);have q:=fun j=>aS3 X _ j _ _ _ HX.2.1;have i3:X.cell? (a_ w.heap.size 3)=some (.int .u32 m.FJ):=q 3;have i4:X.cell? (a_ w.heap.size 4)=some (.int .u32 m.addr):=q 4;obtain⟨y0,y1,y2⟩:=Gf HX.2.2;have Uk:=HX.1.Uk;clear h hR q;go_enter func189,ntmps189;go_wp2;rw[<-hX];clear hX;go_quiet (first|(go_at_call 91;exact bd2 (HI _))|(go_at_call 144;exact bd2 (HG _))|(go_at_call 47;exact bd2 (HA _)));have hkb:(k==0)=false:=by simpa using hk
 go_wp2_with fail;refine on_ (HRR _) fun u1 hb=>?_;have HM1:=M0 (HX.1.below (w':=u1) ⟨hb.os,hb.tape,hb.output,hb.size,hb.block⟩);clear hb HRR HI HG HA i3 i4 y0 y1 y2 Uk HX;go_wp2;go_end0;exact⟨rfl,HM1.alloc _⟩
theorem dz(h:Mx w0 P w B m)(hi:Inv K m)(hst:4<=m.st)(hf:m.lK=true)(id ttl pr:Int)(ld:ByteArray)(f:Int)(ld2:ByteArray)(hf0:0<=f/\f<=65535)(hp1:m.phase≠1)(hp3:f≠m.Wl)(op bl:Int)(ts ds:ByteArray)(n:Nat)(xs:List Value)
  (hR:∀u,f_ Vh 71 #[.string ld2] u fun ee w'=>Vl.IE n xs u (fun sa sc=>.tuple #[.agg (rG op bl ts ds sa n sc),.int .i64 0]) ee w'):
  f_ Vh 189 #[p_ B,.agg (rU id ttl pr m.FJ m.addr ld),.agg (rI f m.port ld2)] w fun ee w'=>ee=.returned (.tuple #[])/\∃mz,Step K m mz/\Mx w0 P w' B mz:=by
 obtain⟨X,hX⟩:=ex_ ((w.alloc (.cells (rU id ttl pr m.FJ m.addr ld) 59)).alloc (.cells (rI f m.port ld2) 69));have HX:Hid (Mx w0 P X B m/\X.heap[w.heap.size]?=some (.cells (rU id ttl pr m.FJ m.addr ld) 59 (0,0))/\X.heap[w.heap.size+1]?=some (.cells (rI f m.port ld2) 69 (0,0))):=M0 (by rw[hX];exact⟨(h.alloc _).alloc _,nA w _ _,jq w _ _⟩);have HI:=M0 (ab7 HX.1);rw[hf]at HI;have HG:=M0 (aw3 HX.1);have HA:=M0 (YO HX.1);have HRR:=M0 hR;have HFT:Hid (∀k,iq B m k->k<w.heap.size):=M0 (fun k hk=>h.ik hk);have q:=fun j=>aS3 X _ j _ _ _ HX.2.1;have i3:X.cell? (a_ w.heap.size 3)=some (.int .u32 m.FJ):=q 3;have i4:X.cell? (a_ w.heap.size 4)=some (.int .u32 m.addr):=q 4;obtain⟨y0,y1,y2⟩:=Gf HX.2.2;have Uk:=HX.1.Uk;clear h hR q;go_enter func189,ntmps189;go_wp2;rw[<-hX];clear hX;go_quiet (first|(go_at_call 91;exact bd2 (HI _))|(go_at_call 144;exact bd2 (HG _))|(go_at_call 47;exact bd2 (HA _)));go_wp2_with fail;refine(HRR _).mono ?_;rintro ee u1 ⟨sa,sc,rfl,hown,hb⟩;have hbX:gm X.heap.size X u1:=⟨hb.os,hb.tape,hb.output,hb.size,hb.block⟩;obtain⟨Y,hY⟩:=ex_ (u1.alloc (.cells (rG op bl ts ds sa n sc) 96));have HU1:Hid (w.heap.size+1<u1.heap.size):=M0 (ZB hbX (gG HX.2.2));have HY:Hid (Mx w0 P Y B m/\Y.heap[u1.heap.size]?=some (.cells (rG op bl ts ds sa n sc) 96 (0,0))/\Y.heap[w.heap.size+1]?=some (.cells (rI f m.port ld2) 69 (0,0))/\Y.ownsRow X.heap.size 146 2 (.slice sa n sc) n xs/\w.heap.size<=X.heap.size):=M0 (by
  rw[hY]
  refine⟨(HX.1.below hbX).alloc _,aS6 u1 _,?_,hown.alloc _,ba1 (gG HX.2.1)⟩
  rw[aT1 _ _ _ HU1,hbX.block _ (gG HX.2.2)];exact HX.2.2)
 have c40:=(HX.1.below hbX).c40;have Ur:=(HX.1.below hbX).Ur;have d0:u1.cell? (a_ (w.heap.size+1) 0)=some (.int .u16 f):=(Gf ((hbX.block _ (gG HX.2.2)).trans HX.2.2)).1;have hBu:=(HX.1.below hbX).lt;have hBn:B≠u1.heap.size:=aU4 hBu;have hwu:=gB HU1;have hwn:w.heap.size+1≠u1.heap.size:=aU4 hwu;clear hown hb hbX HRR HI HG HA i3 i4 y0 y1 y2 Uk HX;go_wp2;rw[<-hY];clear hY;have e40:=HY.1.c40;have e42:=HY.1.Ur;have e0:=(Gf HY.2.2.1).1;clear c40 Ur d0;have e0b:=(aF3 HY.2.1).1;have hp:(m.phase==1)=false:=by simpa using hp1
 have hp2:(f==m.Wl)=false:=by simpa using hp3
 have HRF:=M0 (fun u hu=>bK (w0:=w0) (P:=P) (w:=u) (B:=B) hu hi hst f 5 hf0 (by decide));have HI2:=M0 hi;clear hp1 hp3 hi;go_quiet (fail)
 by_cases h5:op=5
 ·have h5b:(op==5)=true:=by simpa using h5
  go_wp2;go_end0;exact⟨rfl,m,.refl HI2,HY.1.like ⟨rfl,rfl,rfl,rfl⟩⟩
 have h5b:(op==5)=false:=by simpa using h5
 go_wp2_with fail;refine aV5 (HRF _ ?_) ?_;exact HY.1.like ⟨rfl,rfl,rfl,rfl⟩;rintro ee u9 ⟨rfl,mz,hzz,h4⟩;have H4:=M0 h4;have HZ:=M0 hzz;clear h4 hzz;go_wp2;go_end0;exact⟨rfl,mz,HZ.1,H4⟩
end Js
namespace Tf
theorem bJ:∀(k:Nat) (l:List UInt8) (fs:pO),l.length<=k->kV l=some fs->∀f ∈ fs,f.2.length<=l.length
 |k,l,fs,hk,h=>by
  by_cases h0:l=[]
  ·subst h0
   rw[FX]at h;injection h with h
   subst h;intro f hf
   cases hf
  cases hc:cut l with
  |none=>rw[Bi h0 hc]at h;cases h
  |some p=>
   obtain⟨n,r⟩:=p
   cases hc2:cut r with
   |none=>rw[Bz h0 hc hc2]at h;cases h
   |some p2=>
    obtain⟨v,r2⟩:=p2;have l1:=uA hc;have l2:=uA hc2
    cases hn:iM n with
    |false=>rw[Ph h0 hc hn]at h;cases h
    |true=>
     cases hv:iM v with
     |false=>rw[Pz h0 hc hc2 hv]at h;cases h
     |true=>
      rw[Pe h0 hc hc2 hn hv]at h
      cases hr:kV r2 with
      |none=>rw[hr]at h;cases h
      |some fs2=>
       rw[hr]at h;injection h with h
       subst h;intro f hf
       rcases fM.1 hf with rfl|hf
       ·show v.length<=l.length
        omega
       match k,hk with
       |0,hk=>omega
       |k+1,hk=>
        have:=bJ k r2 fs2 (by omega) hr f hf;omega
theorem VF(l:List UInt8):(U5 l).2.data.length<=1024/\((U5 l).2.op<=65535/\(U5 l).2.block<=65535)/\∀f ∈ (U5 l).2.fs,f.2.length<=l.length:=by
 have h0:=(l.getD 0 0).toNat_lt;have h1:=(l.getD 1 0).toNat_lt;have h2:=((l.drop 2).getD 0 0).toNat_lt;have h3:=((l.drop 2).getD 1 0).toNat_lt;have hz:((RH.zero).data.length<=1024/\((RH.zero).op<=65535/\(RH.zero).block<=65535)/\∀f ∈ (RH.zero).fs,f.2.length<=l.length):=⟨aV3 _,⟨aV3 _,aV3 _⟩,fun f hf=>by cases hf⟩;have hfl:∀(r:List UInt8) (fs:pO),r.length<=l.length->Qr r=some fs->∀f ∈ fs,f.2.length<=l.length:=fun r fs hr hf f hm=>by
  unfold Qr at hf
  cases hk:kV r with
  |none=>rw[hk]at hf;cases hf
  |some fs'=>
   rw[hk]at hf;simp only at hf
   split at hf
   ·injection hf with hf
    subst hf;exact aT9 (bJ _ r fs' (aS5 _) hk f hm) hr
   cases hf
 unfold U5;simp only
 split
 ·exact hz
 split
 ·split
  ·exact hz
  rename_i n r1 e1
  split
  ·exact hz
  split
  ·exact hz
  rename_i mm r2 e2
  split
  ·exact hz
  split
  ·exact hz
  rename_i fs e3
  have a1:=uA e1;have a2:=uA e2;rw[aW1]at a1;exact⟨aV3 _,⟨by dsimp only;omega,aV3 _⟩,hfl r2 fs (by omega) e3⟩
 split
 ·split
  ·exact hz
  rename_i fs e3
  exact⟨aV3 _,⟨by dsimp only;omega,aV3 _⟩,hfl _ fs (by rw[aW1];omega) e3⟩
 split
 ·split
  ·exact hz
  split
  ·split
   ·exact hz
   exact⟨by dsimp only;omega,⟨by dsimp only;omega,by dsimp only;omega⟩,fun f hf=>by cases hf⟩
  split
  ·split
   ·exact⟨aV3 _,⟨by dsimp only;omega,by dsimp only;omega⟩,fun f hf=>by cases hf⟩
   exact hz
  split
  ·exact hz
  split
  ·exact⟨aV3 _,⟨by dsimp only;omega,by dsimp only;omega⟩,fun f hf=>by cases hf⟩
  exact hz
 exact hz
end Tf
namespace Js
open Bs
variable{K:Nat→Nat} {w0:fV} {P:Nat→Prop} {w w':fV} {B:Nat} {m m' mz:Mc}
structure Rs (K:Nat->Nat) (w0:fV) (P:Nat->Prop):Prop where
 tk:Tk K w0 P
 ty:Ty w0 P
theorem Rs.base:Base (Rs K) B:=fun w0 P w m t h=>⟨Tk.base w0 P w m t.tk h,t.ty.base h⟩
theorem Rs.below(t:Rs K w P)(h:gm w.heap.size w w'):Rs K w' P:=
 ⟨⟨⟨t.tk.tq.1.below h (aS5 _),t.tk.tq.2⟩,t.tk.rg.below h t.tk.rg.lt,t.tk.nr,t.tk.hk⟩,⟨t.ty.te.of (h.block _ t.ty.lt.1) (h.block _ t.ty.lt.2),t.ty.n8,t.ty.n9⟩⟩
theorem bF:∀(fs:Tf.pO) (i:Nat) (h:i<fs.length),(Tf.Rf fs)[i*2]?=some (.string ⟨fs[i].1.toArray⟩)/\(Tf.Rf fs)[i*2+1]?=some (.string ⟨fs[i].2.toArray⟩)
 |[],i,h=>absurd h (Nat.not_lt_zero _)
 |f::fs,0,_=>⟨rfl,rfl⟩
 |f::fs,i+1,h=>by
  have q:=bF fs i (by simpa using h);have e:Tf.Rf (f::fs)=.string ⟨f.1.toArray⟩::.string ⟨f.2.toArray⟩::Tf.Rf fs:=rfl;rw[e,show(i+1)*2=i*2+1+1 by omega];exact⟨q.1,q.2⟩
theorem Vk(fs:Tf.pO)(h:∀f ∈ fs,f.2.length<=1048576):Fl fs.length (Tf.Rf fs):=fun i hi=>
 ⟨_,_,(bF fs i hi).1,(bF fs i hi).2,by rw[Ho.strSize];exact h _ (aZ6 hi)⟩
theorem fe(hi:Inv K m)(hf:m.lK=true)(hd:m.gQ.data.toList.length=32)(op bl:Int)(ts ds:ByteArray)(hz:ds.size<=1048576)(n:Nat)(xs:List Value)(hxs:Fl n xs)(f:Int)(hp:0<=f/\f<=65535):Looks (Rs K) op bl ts ds n xs f B m (Step K m):=by
 intro w0 P u sa sc g b hr hu hfoot hown hg hgF;have hb0:=Rs.base _ _ _ _ hr hu
 by_cases h5:op=5
 ·subst h5
  exact ed hu g 3 hg hgF 5 bl ts ds _ f _ (fun w0' P' u' hb hu'=>bP hu' hi 5 bl ts ds _ f)
 by_cases h6:op=6
 ·subst h6
  refine Zx hu g 3 hg hgF 6 bl ts ds _ f _ (fun w0' P' u' hb hu'=> ?_);have hr':=hb0.below hb;refine on_ (bH hu'.base hi hf hr'.tk.tq hr'.ty 6 bl ts ds n xs sa sc b hfoot (iN hown (fun k hk=>hb.block k (hown.lt k hk).2)) hxs f hp) ?_;rintro w' ⟨mz,hzz,hm⟩;exact⟨rfl,mz,hzz,hu'.join hm⟩
 by_cases h3:op=3
 ·subst h3
  refine ag0 hu g 3 hg hgF 3 bl ts ds _ f _ (fun w0' P' u' hb hu'=> ?_);have hr':=hb0.below hb;refine on_ (di hu'.base hi hf hr'.tk hd 3 bl ts ds _ f hp hz) ?_;rintro w' ⟨mz,hzz,hm⟩;exact⟨rfl,mz,hzz,hu'.join hm⟩
 refine on_ (dU hu g 3 hg hgF op bl ts ds _ f op h5 h6 h3) fun w' hm=>?_;exact⟨rfl,m,.refl hi,hm⟩
theorem dC(h:Mx w0 P w B m)(hi:Inv K m)(hr:Rs K w0 P)(hd:m.gQ.data.toList.length=32)(id ttl pr fr ta:Int)(ld:ByteArray)(f t:Int)(ld2:ByteArray)(hf0:0<=f/\f<=65535)(hl:ld2.size<=262144):
  f_ Vh 189 #[p_ B,.agg (rU id ttl pr fr ta ld),.agg (rI f t ld2)] w fun ee w'=>ee=.returned (.tuple #[])/\∃mz,Step K m mz/\Mx w0 P w' B mz:=by
 cases hf:m.lK with
 |false=>
  refine on_ (uM h hf id ttl pr fr ta ld f t ld2) fun u hu=>?_;exact⟨rfl,m,.refl hi,hu⟩
 |true=>
  have hst:=aU hi hf
  by_cases hn:fr=m.FJ/\ta=m.addr/\t=m.port
  ·obtain⟨rfl,rfl,rfl⟩:=hn
   have hll:ld2.data.toList.length<=1048576:=by rw[jc];omega
   obtain⟨bd,⟨bo,bb⟩,bf⟩:=Tf.VF ld2.data.toList
   by_cases h0:(Tf.U5 ld2.data.toList).1=0
   ·have hR:∀u,f_ Vh 71 #[.string ld2] u fun ee w'=>Vl.IE (Tf.U5 ld2.data.toList).2.fs.length (Tf.Rf (Tf.U5 ld2.data.toList).2.fs) u (fun sa sc=>.tuple #[.agg (rG (Tf.U5 ld2.data.toList).2.op (Tf.U5 ld2.data.toList).2.block ⟨(Tf.U5 ld2.data.toList).2.text.toArray⟩ ⟨(Tf.U5 ld2.data.toList).2.data.toArray⟩ sa (Tf.U5 ld2.data.toList).2.fs.length sc),.int .i64 0]) ee w':=fun u=>Vl.Hl ld2 _ _ _ _ _ _ u (fun u2=>Vl.nK ld2 _ _ _ _ _ _ u2 (fun u3 B hr _=>(Tf.aE7 B ld2.data.toList u3 hr hll).mono (by
     rintro ee w' ⟨hg,h|⟨_,v,rfl,hown⟩⟩
     ·exact absurd h0 h.1
     obtain⟨sa,sc,rfl⟩:=Tf.ib hown
     exact⟨⟨sa,sc,rfl,hown⟩,hg⟩)))
    by_cases hpf:m.phase=1∨f=m.Wl
    ·refine ac5 h hr Rs.base hf id ttl pr ld f ld2 ?_ _ _ _ _ _ _ hR _ (fe hi hf hd _ _ _ _ (by rw[Ho.strSize];omega) _ _ (Vk _ (fun x hx=>aT9 (bf x hx) hll)) f hf0)
     rcases hpf with e|e
     ·exact aT2 (by simpa using e)
     by_cases e1:m.phase=1
     ·exact aT2 (by simpa using e1)
     exact aT7 ⟨by simpa using e1,e⟩
    exact dz h hi hst hf id ttl pr ld f ld2 hf0 (fun e=>hpf (aT2 e)) (fun e=>hpf (aT7 e)) _ _ _ _ _ _ hR
   refine(dH h hf id ttl pr ld f ld2 ((Tf.U5 ld2.data.toList).1:Int) (by omega) (fun u=>Vl.Iu ld2 _ u (fun u2=>Vl.je ld2 _ u2 (fun u3 B hr _=>(Tf.aE7 B ld2.data.toList u3 hr hll).mono (by
    rintro ee w' ⟨hg,⟨_,rfl⟩|h⟩
    ·exact⟨rfl,hg⟩
    exact absurd h.1 h0))))).mono ?_
   rintro ee u ⟨rfl,hu⟩;exact⟨rfl,m,.refl hi,hu⟩
  refine on_ (cO h hf id ttl pr ld f ld2 fr ta t hn) fun u hu=>?_;exact⟨rfl,m,.refl hi,hu⟩
theorem eY(h:Mx w0 P w B m)(hi:Inv K m)(hr:Rs K w0 P)(hd:m.gQ.data.toList.length=32)(s:ByteArray)(hs:s.size<=140737488355000):
  f_ Vh 54 #[p_ B,.string s] w fun ee w'=>ee=.returned (.tuple #[])/\∃mz,Step K m mz/\Mx w0 P w' B mz:=by
 obtain⟨a0,a1,a2,a3,a4,a5,a6,a7,a8,a9,a10,a11,ty,ld,k,hE,hld⟩:=RC.TR.fQ s hs;refine Yh (R:=Rs K) (Z:=Step K m) h hr Rs.base s a0 a1 a2 a3 a4 a5 a6 a7 a8 a9 a10 a11 ty ld k hE (fun _=>.refl hi) (fun _ _ _ _=>.refl hi) ?_ ?_
 ·intro _ _ _ w0 P u hr hu
  exact dL hu hi ld (by omega)
 intro _ _ _ w0 P u hr hu;obtain⟨id,ttl,pr,fr,ta,ld1,k1,hI,_,hfr,hta,hz1⟩:=RC.bk6 ld (by omega);obtain⟨f,t,ld2,k2,hU,hf0,hz2⟩:=RC.Vz ld1 fr ta (by omega) hfr hta;refine nZ (Z:=Step K m) hu ld id ttl pr fr ta ld1 k1 f t ld2 k2 hI hU (fun _=>.refl hi) (fun _ _ _ _ u hu=>dw hu hi ld2 (by omega)) (fun _ _ _ _ u hu=>dC hu hi hr hd id ttl pr fr ta ld1 f t ld2 hf0 (by omega))
end Js
namespace Js
open Bs
variable{K:Nat→Nat} {w0:fV} {P:Nat→Prop} {w w':fV} {Q B:Nat} {m m' mz:Mc}
theorem Og(h:Mx w0 P w B m)(hp:m.phase≠3):f_ Vh 35 #[p_ B] w fun ee w'=>ee=.returned (.tuple #[.string ⟨#[]⟩,.bool false])/\w'=w:=by
 have c40:=h.c40;have e:(m.phase !=3)=true:=by simpa using hp
 clear h hp;go_enter func35,ntmps35;go_wp2;go_ret2;exact⟨rfl,rfl⟩
theorem D5(h:Bx w0 P w Q B m)(hp:m.phase≠3):f_ Vh 21 #[p_ Q] w fun ee w'=>ee=.returned (.tuple #[.string ⟨#[]⟩,.bool false])/\w'=w:=by
 have HM:=M0 (kP h);have HT:=M0 (Og h.mx hp);clear h hp;go_enter func21,ntmps21;go_wp2_with fail;refine HM.mono ?_;rintro ee u ⟨rfl,rfl⟩;go_wp2_with fail;refine HT.mono ?_;rintro ee u ⟨rfl,rfl⟩;go_wp2;go_ret2;exact⟨rfl,rfl⟩
theorem bR(h:Bx w0 P w Q B m)(Z:Mc->Prop)
  (HT:f_ Vh 31 #[p_ B,.int .i64 1] w fun ee w'=>ee=.returned (.int .i64 1)/\∃mz,Z mz/\Mx w (iq B m) w' B mz):
  f_ Vh 17 #[p_ Q,.int .i64 1] w fun ee w'=>ee=.returned (.int .i64 1)/\∃mz,Z mz/\Bx w0 P w' Q B mz:=by
 have HM:=M0 (kP h);have HTT:=M0 HT;have HB:=M0 h;clear h HT;go_enter func17,ntmps17;go_wp2_with fail;refine HM.mono ?_;rintro ee u ⟨rfl,rfl⟩;go_wp2_with fail;refine on_ HTT ?_;rintro u ⟨mz,hz,hu⟩;have HZ:=M0 hz;have HU:=M0 (HB.next hu);clear hu HTT HM HB hz;go_wp2;go_ret;exact⟨rfl,mz,HZ,HU⟩
theorem fB(h:Mx w0 P w B m)(s:ByteArray)(hq:m.cq=[s])(Z:Mc->Prop)(hE:m.ended=true->Z m.jP)
  (HF:m.ended=false->∀u,Mx w0 P u B m.jP->f_ Vh 54 #[p_ B,.string s] u fun ee w'=>ee=.returned (.tuple #[])/\∃mz,Z mz/\Mx w0 P w' B mz):
  f_ Vh 31 #[p_ B,.int .i64 1] w fun ee w'=>ee=.returned (.int .i64 1)/\∃mz,Z mz/\Mx w0 P w' B mz:=by
 have HN:=M0 (AU h);have hhead:kW m.cq=s:=by rw[hq];rfl
 have hne:(!m.cq.isEmpty)=true:=by rw[hq];rfl
 have hen1:m.jP.ended=m.ended:=by unfold Mc.jP;rw[hq];rfl
 rw[hhead,hne]at HN;have HEN:=M0 hen1
 cases he:m.ended with
 |true=>
  have HZ:=M0 (hE he);rw[he]at hen1;clear h HF hE hhead hne hq HEN he;go_enter func31,ntmps31;go_wp2;refine aX5 2 ?_;rw[aU9];go_wp2_with fail;refine on_ HN fun u hu=>?_;have HU:=M0 hu;clear hu HN;have HE:=M0 (t_ HU);rw[hen1]at HE;go_wp2_with fail;refine HE.mono ?_;rintro ee u2 ⟨rfl,rfl⟩;go_wp2;rw[aU9];go_wp2;go_ret;exact⟨rfl,_,HZ,HU⟩
 |false=>
  have HFF:=M0 (HF he);rw[he]at hen1;clear h HF hE hhead hne hq HEN he;go_enter func31,ntmps31;go_wp2;refine aX5 2 ?_;rw[aU9];go_wp2_with fail;refine on_ HN fun u hu=>?_;have HU:=M0 hu;clear hu HN;have HE:=M0 (t_ HU);rw[hen1]at HE;go_wp2_with fail;refine HE.mono ?_;rintro ee u2 ⟨rfl,rfl⟩;go_wp2_with fail;refine on_ (HFF _ HU) ?_;rintro u3 ⟨mz,hz,hu3⟩;have HZ3:=M0 hz;have HU3:=M0 hu3;clear hz hu3 HE HU HFF;go_wp2;rw[aU9];go_wp2;go_ret;exact⟨rfl,mz,HZ3,HU3⟩
structure Idle (K:Nat->Nat) (m:Mc):Prop where
 inv:Inv K m
 cg:Cg m
 gQ:m.gQ.data.toList.length=32
 cq:m.cq=[]
 gq:m.gq=[]
 card:m.card=[2,0,0,0,0,42]
theorem fK(h:Bx w0 P w Q B m)(hi:Idle K m)(hq:Tq w (iq B m))(d:Int)(hd:0<=d/\d<=4294967295):
  f_ Vh 15 #[p_ Q,.int .u32 d] w fun ee w'=>ee=.returned (.tuple #[])/\∃mz,Ev K m mz/\Bx w0 P w' Q B mz:=
 ad5 h d _ (Gi h.mx.base hi.inv hq hi.cg d hd)
theorem VD(hi:Idle K m)(s:ByteArray)(hr:0<m.rx):(m.put s).cq=[s]/\(m.put s)={m with cq:=[s]}:=by
 unfold Mc.put;rw[hi.cq,aU0 (by simpa using hr)];exact⟨rfl,rfl⟩
theorem eG{s:ByteArray}(h:Bx w0 P w Q B (m.put s))(hi:Idle K m)(hrx:0<m.rx)(hr:Rs K w (iq B m))(hs:s.size<=140737488355000):
  f_ Vh 17 #[p_ Q,.int .i64 1] w fun ee w'=>ee=.returned (.int .i64 1)/\∃mz,Ev K m mz/\Bx w0 P w' Q B mz:=by
 obtain⟨hc,he⟩:=VD hi s hrx;rw[he]at h;obtain⟨m1,hm1⟩:∃m1:Mc,m1={m with cq:=[s]}:=⟨_,rfl⟩;have hcame:m1.jP={m with cf:=(m.cf+1)%m.rx,cq:=[]}:=by rw[hm1];rfl
 have hi2:Step K m m1.jP:=by
  rw[hcame];refine .quiet ⟨?_,hi.inv.port,hi.inv.Wl,hi.inv.TE,hi.inv.bE,hi.inv.low,hi.inv.img,hi.inv.gQ,hi.inv.cap,hi.inv.st⟩ rfl (aT7 rfl) ⟨rfl,rfl,rfl,rfl,rfl,rfl,hi.cq.symm⟩;have o:=hi.inv.ok
  cases o;constructor<;>assumption
 have hen:m1.ended=m.ended:=by rw[hm1];rfl
 rw[<-hm1]at h;refine bR h (fun mz=>Ev K m mz) (fB h.mx.base s (by rw[hm1]) _ (fun e=> ?_) (fun e u hu=> ?_))
 ·rw[hcame]
  rw[hcame]at hi2;obtain⟨q,h1,h2⟩:=hi2.out;exact⟨hi2.inv,⟨q,h1,fun o ho=>aT2 (h2 o ho)⟩,hi2.fix,fun _=>⟨rfl,rfl,rfl⟩⟩
 refine on_ (eY hu hi2.inv (by rw[show iq B m1=iq B m from by rw[hm1];rfl];exact hr) (by rw[hi2.fix.gQ];exact hi.gQ) s hs) ?_;rintro u2 ⟨mz,hz,h2⟩;exact⟨rfl,mz,(hi2.trans hz).ev (by rw[<-hen];exact e),h2⟩
theorem dD{a:Int}{o:ByteArray}(h:cZ [2,0,0,0,0,42] a o)(ha:0<=a/\a<=4294967295):∃(t0 t1 t2 t3 t4 t5:UInt8) (ty:Int) (y:ByteArray),
  (∀u,f_ Vh 19 #[.string o] u fun ee w'=>ee=.returned (.tuple #[.agg (rM t0.toNat t1.toNat t2.toNat t3.toNat t4.toNat t5.toNat 2 0 0 0 0 42 ty y),.int .i64 0])/\gm u.heap.size u w')/\
  ∃(id ttl pr fr ta:Int) (ld:ByteArray) (k:Int),(∀u,f_ Vh 20 #[.string y] u fun ee w'=>ee=.returned (.tuple #[.agg (rU id ttl pr fr ta ld),.int .i64 k])/\gm u.heap.size u w')/\(ty≠2048∨ty=2048/\k=0/\(fr=0∨fr=a)):=by
 obtain⟨t,ty,ld,rfl,ht,hl,hty⟩:=h
 match t,ht with
 |[t0,t1,t2,t3,t4,t5],_=>
  have b:1536<=ty/\ty<=65535:=by rcases hty with e|⟨e,_⟩<;>omega
  have hE:=fun u=>Ho.Y4 t0 t1 t2 t3 t4 t5 2 0 0 0 0 42 ty ld b.1 b.2 hl u;refine⟨t0,t1,t2,t3,t4,t5,ty,Ho.WR ld,hE,?_⟩
  rcases hty with e|⟨e,hip⟩
  ·have hz:=Ho.Z_ ld
   exact⟨_,_,_,_,_,_,_,fun u=>Uw.zX (Ho.WR ld) _ rfl u (by omega),aT2 (by omega)⟩
  have hx:∃x,(x=0∨x=a)/\eD x ld:=by
   rcases hip with hp|hp
   ·exact⟨0,aT2 rfl,hp⟩
   exact⟨a,aT7 rfl,hp⟩
  obtain⟨x,hx,id,ta,l2,rfl,hid,hta,h2⟩:=hx;have hxr:0<=x/\x<=4294967295:=by rcases hx with rfl|rfl<;>omega
  exact⟨id,64,17,x,ta,l2,0,fun u=>Ho.aN8 id 64 17 x ta l2 hid (by decide) (by decide) hxr hta h2 u,aT7 ⟨e,rfl,hx⟩⟩
end Js
end Go.Proofs.YtdgacidndknceaaGreatDoor
