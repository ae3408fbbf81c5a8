import Derived.Test.YtdgacidndknceaaGreatDoorMg10
import Derived.Test.YtdgacidndknceaaGreatDoorMg17
import Derived.WalkSmall
set_option linter.all false
set_option maxHeartbeats 8000000
set_option maxRecDepth 20000
open Go.ChangeShapes Go.WideShapes Go.ChangeAt Go.RowKit
open Go renaming World → fV, Calls → f_
open Go.RowKit renaming Below → gm
open Go.Proofs.Tryz renaming prog → Vh
open Go.Value renaming int → Vb
open Go.IntKind renaming u8 → Vd, u16 → Ve, u32 → Vf, i64 → Vg
open Go.Proofs.Tryz
namespace Go.Proofs.YtdgacidndknceaaGreatDoor
namespace Ho
open Bs Js
variable{w0 w w1 w':fV} {P:Nat→Prop} {Q B H G:Nat} {m m':Mc} {K:Nat→Nat}
theorem bm3(s:ByteArray)(k:Nat)(c:UInt8)(hk:k<s.size)(hc:s.data.toList[k]?=some c)(x:Int)(hx:x=k)(u:fV):(Instr.index 9 (.string s) (Vb Vg x)).run Vh u=.ok (Vb Vd c.toNat) u:=by
 subst hx;have h2:(k:Int)<(s.size:Int):=by omega
 have h3:s[k]=c:=by
  have q:s.data[k]?=some c:=by rw[<-ba0];exact hc
  have hk':k<s.data.size:=hk;rw[aZ8 hk']at q;exact aU2 q
 simp[Instr.index,bd8 aX8,asIntOf,h2,hk,go_sem,h3]
structure Sb (K:Nat->Nat) (w:fV):Prop where
 ng:4<=w.heap.size
 gl:Gl w
 cd:NA w
 rg:Hs.RG w 3 K
 hk:∀j,K j<4294967296
 tb:Tb w
 te:Te w
theorem Te.lt(h:Te w):8<w.heap.size/\9<w.heap.size:=by
 obtain⟨⟨a,h1,_⟩,b,h3,_⟩:=h;exact⟨CP h1,CP h3⟩
theorem Sb.below(h:Sb K w)(hb:gm w.heap.size w w'):Sb K w':=
 ⟨aT9 h.ng hb.size,h.gl.below hb h.ng,h.cd.below hb,h.rg.below hb h.rg.lt,h.hk,h.tb.below hb (aS5 _),h.te.of (hb.block _ (Te.lt h.te).1) (hb.block _ (Te.lt h.te).2)⟩
theorem aR(h:Bx w1 (fun _=>False) w Q B m):gm w1.heap.size w1 w:=⟨h.mx.os,h.mx.tape,h.mx.output,h.mx.size,fun k hk=>h.mx.kept k hk (fun f=>f)⟩
theorem Sb.not(h:Sb K w1)(hx:Bx w1 (fun _=>False) w Q B m){k:Nat}(hk:k<w1.heap.size): ¬iq B m k:=fun hf=>by
 rcases hx.mx.own k hf with a|a
 ·exact a
 omega
theorem Sb.rs(h:Sb K w1)(hx:Bx w1 (fun _=>False) w Q B m):Rs K w (iq B m):=by
 have s:=h.below (aR hx);exact⟨⟨⟨s.tb,h.not hx h.tb.lt⟩,s.rg,h.not hx h.rg.lt,s.hk⟩,⟨s.te,h.not hx (Te.lt h.te).1,h.not hx (Te.lt h.te).2⟩⟩
theorem bk8(hi:Idle K m)(he:Ev K m m'):Idle K m'.taken:=by
 have f:=he.fix;have i:=he.inv;have c:=hi.cg;refine⟨⟨?_,i.port,i.Wl,i.TE,i.bE,i.low,i.img,i.gQ,i.cap,i.st⟩,⟨?_,?_,?_,?_,?_⟩,?_,?_,?_,?_⟩
 ·have o:=i.ok
  cases o;constructor<;>assumption
 ·show 0<=m'.blk/\m'.blk<=65536;rw[f.blk];exact c.blk
 ·show 0<=m'.win/\m'.win<=65536;rw[f.win];exact c.win
 ·show m'.name.size<=1024;rw[f.name];exact c.name
 ·show(Lib.itoa m'.blk).length<=32;rw[f.blk];exact c.b32
 ·show(Lib.itoa m'.win).length<=32;rw[f.win];exact c.w32
 ·show m'.gQ.data.toList.length=32;rw[f.gQ];exact hi.gQ
 ·show m'.cq=[];rw[f.cq];exact hi.cq
 ·show m'.gq.drop m'.gq.length=[];exact aW8 (aS5 _)
 show m'.card=_;rw[f.card];exact hi.card
theorem bl7(hi:Idle K m)(he:Ev K m m'):∀o ∈ m'.gq,cZ [2,0,0,0,0,42] m.addr o∨cZ [2,0,0,0,0,42] m'.addr o:=by
 obtain⟨q,h1,h2⟩:=he.out;rw[hi.gq,be5]at h1;rw[h1,<-hi.card];exact h2
def Gd(a b:Int)(o:ByteArray):Prop:=∃(t0 t1 t2 t3 t4 t5:UInt8) (ty:Int) (y:ByteArray),
  (∀u,f_ Vh 19 #[.string o] u fun ee w'=>ee=.returned (.tuple #[.agg (rM t0.toNat t1.toNat t2.toNat t3.toNat t4.toNat t5.toNat 2 0 0 0 0 42 ty y),Vb Vg 0])/\gm u.heap.size u w')/\
  ∃(id ttl pr fr ta:Int) (ld:ByteArray) (k:Int),(∀u,f_ Vh 20 #[.string y] u fun ee w'=>ee=.returned (.tuple #[.agg (rU id ttl pr fr ta ld),Vb Vg k])/\gm u.heap.size u w')/\(ty≠2048∨ty=2048/\k=0/\(fr=0∨fr=a∨fr=b))
theorem bl9(hi:Idle K m)(he:Ev K m m')(o:ByteArray)(ho:o ∈ m'.gq):Gd m.addr m'.addr o:=by
 rcases bl7 hi he o ho with h|h
 ·obtain⟨t0,t1,t2,t3,t4,t5,ty,y,h1,id,ttl,pr,fr,ta,ld,k,h2,h3⟩:=dD h hi.inv.ok.addr
  exact⟨t0,t1,t2,t3,t4,t5,ty,y,h1,id,ttl,pr,fr,ta,ld,k,h2,h3.imp_right (fun q=>⟨q.1,q.2.1,q.2.2.imp_right aT2⟩)⟩
 obtain⟨t0,t1,t2,t3,t4,t5,ty,y,h1,id,ttl,pr,fr,ta,ld,k,h2,h3⟩:=dD h he.inv.ok.addr;exact⟨t0,t1,t2,t3,t4,t5,ty,y,h1,id,ttl,pr,fr,ta,ld,k,h2,h3.imp_right (fun q=>⟨q.1,q.2.1,q.2.2.imp_right aT7⟩)⟩
theorem Vs(l:List UInt8):(qg.mk 2 0 0 0 0 42 ⟨#[107,101,114,110,101,108]⟩ 3000 ⟨(Hs.Xk K l).toArray⟩ 16 2 ((16:Nat):Int) ((16:Nat):Int)).Good:=by
 refine⟨by show nO 2 0 0 0 0 42=true;decide,by show Tf.iM [107,101,114,110,101,108]=true;decide,by show(⟨#[107,101,114,110,101,108]⟩:ByteArray).size<=20;decide,?_,⟨by show(1:Int)<=3000;decide,by show(3000:Int)<=600000;decide⟩,⟨by show(8:Int)<=16;decide,by show(16:Int)<=1024;decide⟩,⟨by show(1:Int)<=2;decide,by show(2:Int)<=8;decide⟩,⟨by show(1:Int)<=((16:Nat):Int);decide,by show((16:Nat):Int)<=16;decide⟩,⟨by show(1:Int)<=((16:Nat):Int);decide,by show((16:Nat):Int)<=16;decide⟩⟩;show(Hs.Xk K l).toArray.size=32;rw[aZ9,Hs.XV]
theorem VA(D:ByteArray)(e:D.data.toList.length=32)(bm cg gg:Nat):Idle K (Qb (qg.mk 2 0 0 0 0 42 ⟨#[107,101,114,110,101,108]⟩ 3000 D 16 2 ((16:Nat):Int) ((16:Nat):Int)) bm cg gg):=
 ⟨⟨⟨z0 _ (by decide),z0 _ (by decide),z0 _ (by decide),z0 _ (by decide),z0 _ (by decide),z0 _ (by decide),z0 _ (by decide),z0 _ (by decide),z0 _ (by decide),z0 _ (by decide),z0 _ (by decide),z0 _ (by decide),z0 _ (by decide),z0 _ (by decide),z0 _ (by decide),by show(⟨#[]⟩:ByteArray).size<=262144;decide⟩,z0 _ (by decide),z0 _ (by decide),z0 _ (by decide),Js.Cd.nil _,fun _=>⟨rfl,aT2 rfl⟩,(by show((0:Nat):Int)<=3000;decide),(fun h=>by cases h),(by show(0:Int)<=3000/\(3000:Int)<=1048576;decide),z0 _ (by decide)⟩,
   ⟨by show(0:Int)<=16/\(16:Int)<=65536;decide,by show(0:Int)<=2/\(2:Int)<=65536;decide,by show(⟨#[107,101,114,110,101,108]⟩:ByteArray).size<=1024;decide,by show(Lib.itoa 16).length<=32;decide+kernel,by show(Lib.itoa 2).length<=32;decide+kernel⟩,e,rfl,rfl,rfl⟩
theorem bT(m:Mc)(s:ByteArray):iq B (m.put s)=iq B m:=by unfold Mc.put;split<;>rfl
theorem Bx.off(h:Bx w (iq B m) w' Q B m'){k:Nat}(hk:k<w.heap.size)(hf: ¬iq B m k): ¬iq B m' k:=fun f=>by
 rcases h.mx.own k f with a|a
 ·exact hf a
 omega
structure St (K:Nat->Nat) (W u:fV) (Q B:Nat) (m m':Mc) (b1 b2:Nat):Prop where
 bx:Bx W (fun _=>False) u Q B m'
 r1:u.heap[b1]?=some (.cells (rN m.now m.st m.phase m.addr m.boots m.ql.length m.lost m.cached) 48 (0,0))
 r2:u.heap[b2]?=some (.cells (rN m'.now m'.st m'.phase m'.addr m'.boots m'.ql.length m'.lost m'.cached) 48 (0,0))
 n1: ¬iq B m' b1
 n2: ¬iq B m' b2
structure Sk (K:Nat->Nat) (W u:fV) (Q B:Nat) (m m':Mc) (b1 b2:Nat):Prop where
 bx:Bx W (fun _=>False) u Q B m'.taken
 r1:u.heap[b1]?=some (.cells (rN m.now m.st m.phase m.addr m.boots m.ql.length m.lost m.cached) 48 (0,0))
 r2:u.heap[b2]?=some (.cells (rN m'.now m'.st m'.phase m'.addr m'.boots m'.ql.length m'.lost m'.cached) 48 (0,0))
theorem St.take{b1 b2:Nat}(h:St K w1 w Q B m m' b1 b2)(k:Bx w (iq B m') w' Q B m'.taken):Sk K w1 w' Q B m m' b1 b2:=
 ⟨h.bx.next k.mx,k.stay h.r1 h.n1,k.stay h.r2 h.n2⟩
theorem Sk.below{b1 b2:Nat}(h:Sk K w1 w Q B m m' b1 b2)(hb:gm w.heap.size w w'):Sk K w1 w' Q B m m' b1 b2:=
 ⟨h.bx.below hb,(hb.block _ (aT3 h.r1)).trans h.r1,(hb.block _ (aT3 h.r2)).trans h.r2⟩
theorem Sk.cell1{b1 b2:Nat}(h:Sk K w1 w Q B m m' b1 b2)(j:Nat):w.cell? (a_ b1 j)=(rN m.now m.st m.phase m.addr m.boots m.ql.length m.lost m.cached)[j]?:=aS3 _ b1 j _ _ (0,0) h.r1
theorem Sk.rz{b1 b2:Nat}(h:Sk K w1 w Q B m m' b1 b2)(j:Nat):w.cell? (a_ b2 j)=(rN m'.now m'.st m'.phase m'.addr m'.boots m'.ql.length m'.lost m'.cached)[j]?:=aS3 _ b2 j _ _ (0,0) h.r2
end Ho
namespace Ho
open Bs Js
variable{K:Nat→Nat} {w:fV}
theorem VP(s tm:ByteArray)(fs:List ByteArray)(fa:Option Addr)(fc:Nat)(hsb:Sb K w)
  (hfr:∀i (hi:i<fs.length),∃g o,fa=some (a_ g o)/\w.cell? (a_ g (o+i))=some (.string fs[i])) (hsz:∀f ∈ fs,f.size<=140737488355000):
  f_ Vh 5 #[.string s,.slice fa fs.length fc,.string tm] w fun ee w'=>ee=.returned (.bool true)/\gm w.heap.size w w':=by
 have HSB:=M0 hsb;have HFR:=M0 hfr;have HSZ:=M0 hsz;have HAL:=M0 (Vi K w hsb.ng hsb.gl hsb.cd hsb.rg hsb.hk hsb.tb);clear hfr hsz hsb
 by_cases h4:4000<s.size
 ·have e4:decide ((4000:Int)<(s.size:Int))=true:=decide_eq_true (by omega)
  clear h4 HAL HSB HFR HSZ;go_enter func5,ntmps5;go_wp2;go_ret;exact⟨rfl,aS8 _ _⟩
 have e4:decide ((4000:Int)<(s.size:Int))=false:=decide_eq_false (by omega)
 by_cases h5:16384<fs.length
 ·have e5:decide ((16384:Int)<(fs.length:Int))=true:=decide_eq_true (by omega)
  clear h4 h5 HAL HSB HFR HSZ;go_enter func5,ntmps5;go_wp2;go_ret;exact⟨rfl,aS8 _ _⟩
 have e5:decide ((16384:Int)<(fs.length:Int))=false:=decide_eq_false (by omega);have HLEN:=M0 (Nat.le_of_not_lt h5);have HSL:=M0 (Nat.le_of_not_lt h4);clear h4 h5;obtain⟨l,hl⟩:∃l:List UInt8,l=s.data.toList:=⟨_,rfl⟩;have HCF:Hid (∀u,Sb K u->f_ Vh 10 #[.string s,Vb Vg 16,Vb Vg 2] u fun e w'=>e=.returned (.agg (rK 2 0 0 0 0 42 ⟨#[107,101,114,110,101,108]⟩ 600000 ⟨(Hs.Xk K l).toArray⟩ 16 2 16 16))/\gm u.heap.size u w'):=M0 (fun u hu=>ak0 s l K 16 2 u hl.symm (by rw[hl];exact aT9 HSL (by decide)) hu.rg hu.hk (ah9 hu.cd));have HGD:=M0 (Vs (K:=K) l);obtain⟨dg,hdg⟩:∃dg:ByteArray,dg=⟨(Hs.Xk K l).toArray⟩:=⟨_,rfl⟩;have HDL:Hid (dg.data.toList=Hs.Xk K l):=M0 (by rw[hdg]);rw[<-hdg]at HCF HGD;clear hdg hl HSL;go_enter func5,ntmps5;go_wp2_with fail;refine on_ HAL fun x1 hb1=>?_;have HB1:=M0 hb1;have HC1:=M0 (HCF x1 (HSB.below hb1));clear hb1 HAL HCF;go_wp2_with fail;refine on_ HC1 fun x2 hb2=>?_;have HB2:=M0 (HB1.trans (hb2.mono HB1.size));clear HB1 hb2 HC1;go_wp2_with fail;obtain⟨W,hW⟩:=ex_ (x2.alloc (.cells (rK 2 0 0 0 0 42 ⟨#[107,101,114,110,101,108]⟩ 3000 dg 16 2 16 16) 32));obtain⟨C,hC⟩:=ex_ x2.heap.size;have HBW:Hid (gm w.heap.size w W):=M0 (by rw[hW];exact HB2.alloc HB2.size _);have HCC:Hid (W.heap[C]?=some (.cells (rK 2 0 0 0 0 42 ⟨#[107,101,114,110,101,108]⟩ 3000 dg 16 2 16 16) 32 (0,0))):=M0 (by rw[hW,hC];exact aS6 x2 _);have HSW:=M0 (HSB.below HBW);rw[<-hW,<-hC];clear hW hC HB2;refine(ae0 2 0 0 0 0 42 _ 3000 dg 16 2 16 16 HGD _ HSW.ng HSW.gl).mono ?_;rintro ee x3 ⟨Q,B,bm,cg,gg,rfl,hu3,hq3⟩;have HI0:Hid (∃mz,Bx W (fun _=>False) x3 Q B mz/\Idle K mz/\mz.cap=3000/\mz.gQ=dg/\(mz.phase=3->(⟨#[]⟩:ByteArray)=⟨mz.ql.toArray⟩)):=M0 ⟨_,hu3,VA dg (by rw[gB HDL,Hs.XV]) bm cg gg,rfl,rfl,fun _=>rfl⟩;clear hu3 hq3 HGD;go_wp2;go_loopg [10,51] (fs.length+1) (fun gk v i wr=>∃(k:Nat) (ws:ByteArray),k<=fs.length/\gk+k=fs.length+1/\v=.string ws/\i=Vb Vg k/\Hid (∃mz,Bx W (fun _=>False) wr Q B mz/\Idle K mz/\mz.cap=3000/\mz.gQ=dg/\(mz.phase=3->ws=⟨mz.ql.toArray⟩)))
 case atStart=>exact⟨0,⟨#[]⟩,aV3 _,rfl,rfl,rfl,HI0⟩
 obtain⟨k,ws,hkl,hgk,rfl,rfl,HR⟩:=hrel;clear HI0
 by_cases hk:k<fs.length
 case neg=>
  have hki: ¬(k:Int)<(fs.length:Int):=by omega
  obtain⟨mz,hx,_⟩:=gB HR;have HZ:=M0 (HBW.trans ((aR hx).mono HBW.size));clear hx HR;go_wp2;go_ret;exact⟨rfl,HZ⟩
 obtain⟨m,hx,hi,hcap,hdig,hws⟩:=gB HR;obtain⟨g,o,rfl,hfc⟩:=HFR k hk;obtain⟨f,hf⟩:=ex_ (fs[k]);have HFS:Hid (f.size<=140737488355000):=M0 (by rw[hf];exact HSZ _ (aZ6 hk));have hki:(k:Int)<(fs.length:Int):=by omega
 have hcf:wr.cell? (a_ g (o+k))=some (.string f):=by
  rw[hf];have hb:=HBW.trans ((aR hx).mono HBW.size);exact(hb.cell (p:=(a_ g (o+k))) (aW5 w _ hfc)).trans hfc
 have HLK:=M0 (DC hx);have HX:=M0 hx;have HI:=M0 hi;have HCA:=M0 hcap;have HDI:=M0 hdig;have HWS:=M0 hws;clear hx hi hcap hdig hws HR hfc hf;go_wp2_with fail;refine on_ HLK fun x4 hb4=>?_;obtain⟨b1,hb1⟩:=ex_ x4.heap.size;obtain⟨V,hV⟩:=ex_ (x4.alloc (.cells (rN m.now m.st m.phase m.addr m.boots m.ql.length m.lost m.cached) 48));have HV1:Hid (V.heap[b1]?=some (.cells (rN m.now m.st m.phase m.addr m.boots m.ql.length m.lost m.cached) 48 (0,0))):=M0 (by rw[hV,hb1];exact aS6 x4 _);have HVX:Hid (Bx W (fun _=>False) V Q B m):=M0 (by rw[hV];exact(HX.below hb4).alloc _);have HV0:Hid (∀k,iq B m k->k<b1):=M0 (fun k hf=>by rw[hb1];exact(HX.below hb4).mx.ik hf);clear HLK HX hb4 hcf;go_upto_region 15 with fail;subst hV hb1;go_cut [68] (fun v wc=>∃b:Bool,v=.bool b/\x4.alloc (.cells (rN m.now m.st m.phase m.addr m.boots m.ql.length m.lost m.cached) 48)=wc);case first=>
  by_cases hkt:k<tm.size
  ·obtain⟨c,hc⟩:∃c,tm.data.toList[k]?=some c:=⟨_,aV4 (by rw[aU8];exact hkt)⟩
   have hkti:(k:Int)<(tm.size:Int):=by omega
   have hix:=fun u=>bm3 tm k c hkt hc k rfl u;clear hc;go_wp2;go_meet;exact⟨_,rfl,rfl⟩
  have hkti: ¬(k:Int)<(tm.size:Int):=by omega
  go_wp2;go_meet;exact⟨_,rfl,rfl⟩
 obtain⟨b,rfl,rfl⟩:=hcut;go_upto_if 68 with fail;go_cut [] (fun wc=>Hid (∃m',Ev K m m'/\Bx W (fun _=>False) wc Q B m'/\wc.heap[x4.heap.size]?=some (.cells (rN m.now m.st m.phase m.addr m.boots m.ql.length m.lost m.cached) 48 (0,0))/\ ¬iq B m' x4.heap.size));case first=>
  have HNF:Hid (¬iq B m x4.heap.size):=M0 (fun hf=>bh8 _ (HV0 _ hf))
  cases b with
  |true=>
   go_wp2_with fail;refine(fK HVX.base HI (HSW.rs HVX).tk.tq _ ?_).mono ?_
   ·omega
   rintro ee x5 ⟨rfl,m',he,hx5⟩;have HZ:Hid (∃m',Ev K m m'/\Bx W (fun _=>False) x5 Q B m'/\x5.heap[x4.heap.size]?=some (.cells (rN m.now m.st m.phase m.addr m.boots m.ql.length m.lost m.cached) 48 (0,0))/\ ¬iq B m' x4.heap.size):=M0 ⟨m',he,HVX.next hx5.mx,hx5.stay HV1 HNF,Bx.off hx5 (aT3 HV1) HNF⟩;clear he hx5;go_wp2;go_meet;exact HZ
  |false=>
   go_wp2_with fail;refine on_ (yw HVX.base f (aT9 HFS (by decide))) fun x5 hx5=>?_;have HX5:=M0 (HVX.next hx5.mx);have HB5:Hid (x5.heap[x4.heap.size]?=some (.cells (rN m.now m.st m.phase m.addr m.boots m.ql.length m.lost m.cached) 48 (0,0))):=M0 (hx5.stay HV1 HNF);clear hx5;go_wp2_with fail;refine(eG HX5.base HI (Nat.lt_of_le_of_lt (aV3 _) HVX.mx.came.2.2.1) ?_ HFS).mono ?_
   ·have q:=HSW.rs HX5
    rw[bT]at q;exact q
   rintro ee x6 ⟨rfl,m',he,hx6⟩;have HZ:Hid (∃m',Ev K m m'/\Bx W (fun _=>False) x6 Q B m'/\x6.heap[x4.heap.size]?=some (.cells (rN m.now m.st m.phase m.addr m.boots m.ql.length m.lost m.cached) 48 (0,0))/\ ¬iq B m' x4.heap.size):=M0 ⟨m',he,HX5.next hx6.mx,hx6.stay HB5 (by rw[bT];exact HNF),Bx.off hx6 (aT3 HB5) (by rw[bT];exact HNF)⟩;clear he hx6;go_wp2;go_meet;exact HZ
 rename fV=>wc;obtain⟨m',he,hx,hbo,hnf⟩:=gB hcut;obtain⟨b1,hb1⟩:=ex_ x4.heap.size;have HLK:=M0 (DC hx);have HE:=M0 he;have HX:=M0 hx;have HBO:=M0 hbo;have HNF:=M0 hnf;clear hcut he hx hbo hnf HVX HV1 HV0 HFS;go_wp2_with fail;refine on_ HLK fun x7 hb7=>?_;have hlt7:x4.heap.size<x7.heap.size:=aU1 (aT3 HBO) hb7.size;have HB17:Hid (∀ob,(x7.alloc ob).heap[x4.heap.size]?=some (.cells (rN m.now m.st m.phase m.addr m.boots m.ql.length m.lost m.cached) 48 (0,0))):=M0 (fun ob=>by
  rw[((aS8 x7.heap.size x7).alloc (aS5 _) ob).block _ hlt7,hb7.block _ (aT3 HBO)]
  exact HBO)
 have c12:∀ob,(x7.alloc ob).cell? (a_ x4.heap.size 2)=some (Vb Vg m.phase):=fun ob=>by
  rw[aS3 _ x4.heap.size 2 _ _ (0,0) (HB17 ob)];rfl
 have HST:Hid (St K W (x7.alloc (.cells (rN m'.now m'.st m'.phase m'.addr m'.boots m'.ql.length m'.lost m'.cached) 48)) Q B m m' x4.heap.size x7.heap.size):=M0 ⟨(HX.below hb7).alloc _,HB17 _,aS6 x7 _,HNF,fun hf=>bh8 _ ((HX.below hb7).mx.ik hf)⟩;clear HLK hb7 HX HBO HNF hb1;go_upto_region 20 with fail;go_cut [15] (fun v wc=>v=.bool m.ended/\Hid (St K W wc Q B m m' x4.heap.size x7.heap.size));case first=>
  by_cases e3:m.phase=3
  ·have e3':(m.phase==3)=true:=by simpa using e3
   have een:m.ended=true:=by unfold Mc.ended;rw[e3'];rfl
   have HEN:=M0 een;clear een e3;go_wp2;go_meet;exact⟨by rw[gB HEN],HST⟩
  have e3':(m.phase==3)=false:=by simpa using e3
  have een:m.ended=(m.phase==4):=by unfold Mc.ended;rw[e3'];rfl
  have HEN:=M0 een;clear een e3;go_wp2;go_meet;exact⟨by rw[gB HEN],HST⟩
 rename fV=>y0;obtain⟨rfl,HS0⟩:=hcut;clear HST HB17 c12 hlt7;generalize x4.heap.size=b1 at*;generalize x7.heap.size=b2 at*;have HTK:=M0 (Z4 HS0.bx.base);obtain⟨n8,hn8⟩:=ex_ m'.gq.length;have HN8:=M0 hn8;rw[<-hn8]at HTK;clear hn8;go_wp2_with fail;refine HTK.mono ?_;rintro ee x8 ⟨ao,cp,rfl,ho8,hx8⟩;have HRW:Hid (Wm x8 B m' (.slice ao n8 cp) m'.gq):=M0 (Wm.new HS0.bx.mx (by rw[<-gB HN8];exact ho8));have HS8:=M0 (HS0.take hx8);have c12:=HS8.cell1 2;have kF:=HS8.rz 2;have HN16:Hid (n8<=16):=M0 (by rw[gB HN8];exact aT9 HS0.bx.mx.goes.2.2.2.1 HS0.bx.mx.goes.2.1);clear HTK ho8 hx8 HS0;go_upto_region 22 with fail;go_cut [15,16,103] (fun v5 v6 v wc=>v5=.bool m.ended/\v6=.slice ao n8 cp/\v=.bool false/\x8=wc);case first=>
  rcases Bool.eq_false_or_eq_true m.ended with hen|hen
  ·have h0:n8=0:=by rw[gB HN8,(HE.over hen).2.1,HI.gq];rfl
   have e0:decide ((0:Int)<(n8:Int))=false:=decide_eq_false (by omega);have hp:m'.phase=m.phase:=(HE.over hen).1;rw[hp]at kF;have HH0:=M0 h0;clear hp h0;go_wp2;go_meet;exact⟨by rw[hen],by rw[gB HH0],rfl,rfl⟩
  go_wp2;go_meet;exact⟨by rw[hen],rfl,rfl,rfl⟩
 obtain⟨rfl,rfl,rfl,rfl⟩:=hcut;clear c12 kF;have HGD:=M0 (bl9 HI HE);go_wp2;go_loopg [106] (n8+1) (fun gk i wr=>∃j:Nat,j<=n8/\gk+j=n8+1/\i=Vb Vg j/\Hid (gm x8.heap.size x8 wr))
 case atStart=>exact⟨0,aV3 _,rfl,rfl,M0 (aS8 _ _)⟩
 obtain⟨j,hjn,hgj,rfl,HBJ⟩:=hrel;rename fV=>wj
 by_cases hj:j<n8
 case pos=>
  have hji:(j:Int)<(n8:Int):=by omega
  have hn16:=gB HN16;have hj16:(j:Int)<16:=by omega
  obtain⟨g8,rfl,hg8⟩:=HRW.cell rfl (i:=j) (by rw[<-gB HN8];exact hj);obtain⟨q,hq⟩:=ex_ (m'.gq[j]'(by rw[<-gB HN8];exact hj));rw[<-hq]at hg8;have hcq:wj.cell? (a_ g8 j)=some (.string q):=(HBJ.cell (p:=(a_ g8 j)) (aW5 _ _ hg8)).trans hg8;obtain⟨t0,t1,t2,t3,t4,t5,ty,y,hE,id,ttl,pr,fr,ta,ld,kk,hI,hway⟩:=HGD q (by rw[hq];exact aZ6 _);have HEE:=M0 hE;have HII:=M0 hI;have hway':(ty==2048)=false∨(ty=2048/\kk=0/\fr=0)∨(ty=2048/\kk=0/\(fr !=0)=true/\(fr !=m.addr)=false)∨(ty=2048/\kk=0/\(fr !=0)=true/\(fr !=m.addr)=true/\(fr !=m'.addr)=false):=by
   rcases hway with h|⟨h1,h2,h3⟩
   ·exact aT2 (by simpa using h)
   refine aT7 ?_
   by_cases f0:fr=0
   ·exact aT2 ⟨h1,h2,f0⟩
   refine aT7 ?_
   by_cases f1:fr=m.addr
   ·exact aT2 ⟨h1,h2,by simpa using f0,by simpa using f1⟩
   exact aT7 ⟨h1,h2,by simpa using f0,by simpa using f1,by simpa using(h3.resolve_left f0).resolve_left f1⟩
  clear hway hE hI hg8 hq;go_wp2_with fail;refine on_ (HEE _) fun y1 hb1=>?_;have HB1:=M0 (HBJ.trans (hb1.mono HBJ.size));clear hb1 HEE hcq;go_wp2_with fail;refine on_ (HII _) fun y2 hb2=>?_;have hlt2:y1.heap.size<y2.heap.size:=aU1 (aT3 (aS6 y1 (.cells (rM t0.toNat t1.toNat t2.toNat t3.toNat t4.toNat t5.toNat 2 0 0 0 0 42 ty y) 55))) hb2.size;have HB2:Hid (∀ob,gm x8.heap.size x8 (y2.alloc ob)):=M0 (fun ob=>by
   have q1:=HB1.alloc HB1.size (.cells (rM t0.toNat t1.toNat t2.toNat t3.toNat t4.toNat t5.toNat 2 0 0 0 0 42 ty y) 55)
   have q2:=q1.trans (hb2.mono q1.size)
   exact q2.alloc q2.size ob)
  have HXB:Hid (∀ob,(y2.alloc ob).heap[y1.heap.size]?=some (.cells (rM t0.toNat t1.toNat t2.toNat t3.toNat t4.toNat t5.toNat 2 0 0 0 0 42 ty y) 55 (0,0))):=M0 (fun ob=>by
   rw[((aS8 y2.heap.size y2).alloc (aS5 _) ob).block _ hlt2,hb2.block _ (aT3 (aS6 y1 _))]
   exact aS6 y1 _)
  have HCD:Hid (∀ob,NA (y2.alloc ob)):=M0 (fun ob=>HSW.cd.below ((aR HS8.bx).trans ((HB2 ob).mono (aR HS8.bx).size)));have xc6:∀ob,(y2.alloc ob).cell? (a_ y1.heap.size 6)=some (Vb Vd 2):=fun ob=>by rw[aS3 _ y1.heap.size 6 _ _ (0,0) (HXB ob)];rfl
  have xc7:∀ob,(y2.alloc ob).cell? (a_ y1.heap.size 7)=some (Vb Vd 0):=fun ob=>by rw[aS3 _ y1.heap.size 7 _ _ (0,0) (HXB ob)];rfl
  have xc8:∀ob,(y2.alloc ob).cell? (a_ y1.heap.size 8)=some (Vb Vd 0):=fun ob=>by rw[aS3 _ y1.heap.size 8 _ _ (0,0) (HXB ob)];rfl
  have xc9:∀ob,(y2.alloc ob).cell? (a_ y1.heap.size 9)=some (Vb Vd 0):=fun ob=>by rw[aS3 _ y1.heap.size 9 _ _ (0,0) (HXB ob)];rfl
  have xc10:∀ob,(y2.alloc ob).cell? (a_ y1.heap.size 10)=some (Vb Vd 0):=fun ob=>by rw[aS3 _ y1.heap.size 10 _ _ (0,0) (HXB ob)];rfl
  have xc11:∀ob,(y2.alloc ob).cell? (a_ y1.heap.size 11)=some (Vb Vd 42):=fun ob=>by rw[aS3 _ y1.heap.size 11 _ _ (0,0) (HXB ob)];rfl
  have xc12:∀ob,(y2.alloc ob).cell? (a_ y1.heap.size 12)=some (Vb Ve ty):=fun ob=>by rw[aS3 _ y1.heap.size 12 _ _ (0,0) (HXB ob)];rfl
  have gc0:∀ob,(y2.alloc ob).cell? (a_ 0 0)=some (Vb Vd 2):=fun ob=>(HCD ob).1;have gc1:∀ob,(y2.alloc ob).cell? (a_ 0 1)=some (Vb Vd 0):=fun ob=>(HCD ob).2.1;have gc2:∀ob,(y2.alloc ob).cell? (a_ 0 2)=some (Vb Vd 0):=fun ob=>(HCD ob).2.2.1;have gc3:∀ob,(y2.alloc ob).cell? (a_ 0 3)=some (Vb Vd 0):=fun ob=>(HCD ob).2.2.2.1;have gc4:∀ob,(y2.alloc ob).cell? (a_ 0 4)=some (Vb Vd 0):=fun ob=>(HCD ob).2.2.2.2.1;have gc5:∀ob,(y2.alloc ob).cell? (a_ 0 5)=some (Vb Vd 42):=fun ob=>(HCD ob).2.2.2.2.2.1;have c13:∀ob,(y2.alloc ob).cell? (a_ b1 3)=some (Vb Vf m.addr):=fun ob=>(HS8.below (HB2 ob)).cell1 3;have c23:∀ob,(y2.alloc ob).cell? (a_ b2 3)=some (Vb Vf m'.addr):=fun ob=>(HS8.below (HB2 ob)).rz 3;clear hb2 HB1 HII HBJ HXB HCD;have hmq:∀u,(Op.equalIn 10000 30 (.agg (rT 2 0 0 0 0 42)) (.agg (rT 2 0 0 0 0 42))).run Vh u=.ok true u:=fun u=>Sq.Yx 9998 2 0 0 0 0 42 u
  rcases hway' with e1|⟨rfl,rfl,rfl⟩|⟨rfl,rfl,e2,e3⟩|⟨rfl,rfl,e2,e3,e5'⟩
  all_goals go_wp2
  all_goals go_roundg (n8-j)
  all_goals first|omega|exact⟨j+1,by omega,by omega,by go_num,M0 (HB2 _)⟩
 have hji: ¬(j:Int)<(n8:Int):=by omega
 have HB9:=M0 (HS8.below HBJ);have HBC:Hid (gm W.heap.size W wj):=M0 (aR HB9.bx);have HC9:Hid (wj.heap[C]?=some (.cells (rK 2 0 0 0 0 42 ⟨#[107,101,114,110,101,108]⟩ 3000 dg 16 2 16 16) 32 (0,0))):=M0 ((HBC.block _ (aT3 HCC)).trans HCC);have d7:wj.cell? (a_ C 7)=some (Vb Vg 3000):=by rw[aS3 wj C 7 _ _ (0,0) HC9];rfl
 have d8:wj.cell? (a_ C 8)=some (.string dg):=by rw[aS3 wj C 8 _ _ (0,0) HC9];rfl
 have d2:wj.cell? (a_ b2 2)=some (Vb Vg m'.phase):=HB9.rz 2;have HIL:Hid (m'.ql.length<=3000):=M0 (by
  have q:=HE.inv.img
  rw[HE.fix.cap,gB HCA]at q
  omega)
 obtain⟨im,him⟩:∃im:ByteArray,im=⟨m'.ql.toArray⟩:=⟨_,rfl⟩;have hims:im.size=m'.ql.length:=by rw[him];exact aZ9
 have d5:wj.cell? (a_ b2 5)=some (Vb Vg (im.size:Int)):=by rw[hims];exact HB9.rz 5
 have hle: ¬(3000:Int)<(im.size:Int):=by rw[hims];have:=gB HIL;omega
 have HNX:Hid (∀u ws',gm wj.heap.size wj u->(m'.phase=3->ws'=im)->∃mz,Bx W (fun _=>False) u Q B mz/\Idle K mz/\mz.cap=3000/\mz.gQ=dg/\(mz.phase=3->ws'=⟨mz.ql.toArray⟩)):=M0 (fun u ws' hb hw=>⟨m'.taken,HB9.bx.below hb,bk8 HI HE,HE.fix.cap.trans HCA,HE.fix.gQ.trans HDI,fun h3=>(hw h3).trans him⟩);clear e4 e5
 by_cases hp:m'.phase=3
 case neg=>as_aux_lemma=>
  have HIM:Hid (f_ Vh 21 #[p_ Q] wj fun ee w'=>ee=.returned (.tuple #[.string ⟨#[]⟩,.bool false])/\w'=wj):=M0 (D5 HB9.bx (show m'.taken.phase≠3 from hp));have hp3:(m'.phase==3)=false:=by simpa using hp
  have HP:=M0 hp;clear HRW HBJ HGD HS8 hp hims him HB9;go_wp2_with fail;refine on_ HIM fun v1 hv1=>?_;rw[hv1];clear HIM hv1 v1;go_wp2;go_quiet (fail);have hlen:=gB HLEN;go_wp2;go_roundg (fs.length-k)
  case measure=>omega
  exact⟨k+1,⟨#[]⟩,by omega,by omega,rfl,by go_num,M0 (HNX _ _ (below_drewN (aS8 _ _) _) (fun h=>absurd h HP))⟩
 as_aux_lemma=>
  have HIM:Hid (f_ Vh 21 #[p_ Q] wj fun ee w'=>ee=.returned (.tuple #[.string im,.bool true])/\w'=wj):=M0 (by
   have q:=Zt HB9.bx (show m'.taken.phase=3 from hp)
   rw[him];exact q)
  have HH:Hid (∀u,gm W.heap.size W u->f_ Vh 22 #[.string im] u fun en w'=>en=.returned (.string dg)/\gm u.heap.size u w'):=M0 (fun u hu=>by
   have q:=Hs.ax5 im m'.ql K u (by rw[him]) (aT9 HIL (by decide)) (HSW.below hu).rg HSW.hk
   have e1:dg.data.toList=Hs.Xk K m'.ql:=by
    rw[<-gB HDI,<-HE.fix.gQ]
    exact HE.inv.gQ hp
   have e:(⟨(Hs.Xk K m'.ql).toArray⟩:ByteArray)=dg:=by rw[<-e1]
   rw[e]at q
   exact q)
  have HWI:Hid (m.ended=true->ws=im):=M0 (fun hen=>by
   have o:=HE.over hen
   rw[him,o.2.2]
   exact HWS (by rw[<-o.1];exact hp))
  rw[hp]at d2;clear HRW HBJ HGD HS8 hims him HB9;go_wp2_with fail;refine on_ HIM fun v1 hv1=>?_;rw[hv1];clear HIM hv1 v1;obtain⟨en,hen⟩:=ex_ m.ended;rw[<-hen]at HWI ⊢;clear hen
  cases en with
  |true=>
   have hwi:=(HWI rfl).symm;subst hwi;clear HWI;go_wp2;go_region_held3 (fun u=>u.cell? (a_ b2 2)=some (Vb Vg 3)/\u.cell? (a_ b2 5)=some (Vb Vg (im.size:Int))/\u.cell? (a_ C 7)=some (Vb Vg 3000)/\u.cell? (a_ C 8)=some (.string dg)) (go_keep) (first|(go_at_call 22;refine(HH _ HBC.drew).mono ?_;rintro ee z1 ⟨rfl,hz1⟩;have HZ1:Hid (gm wj.heap.size wj z1):=M0 ((aS8 _ wj).drew.trans hz1);have zcb22:z1.cell? (a_ b2 2)=some (Vb Vg 3):=(HZ1.cell (p:=(a_ b2 2)) (aW5 _ _ d2)).trans d2;have zcb25:z1.cell? (a_ b2 5)=some (Vb Vg (im.size:Int)):=(HZ1.cell (p:=(a_ b2 5)) (aW5 _ _ d5)).trans d5;have zcC7:z1.cell? (a_ C 7)=some (Vb Vg 3000):=(HZ1.cell (p:=(a_ C 7)) (aW5 _ _ d7)).trans d7;have zcC8:z1.cell? (a_ C 8)=some (.string dg):=(HZ1.cell (p:=(a_ C 8)) (aW5 _ _ d8)).trans d8))
   have hlen:=gB HLEN;go_wp2;go_roundg (fs.length-k)
   case measure=>omega
   exact⟨k+1,im,by omega,by omega,rfl,by go_num,M0 (HNX _ _ HZ1 (fun _=>rfl))⟩
  |false=>
   clear HWI;go_wp2;refine wp_region_held_drew (S:=fun u=>c_ u b2 2 (Vb Vg 3)/\c_ u b2 5 (Vb Vg (im.size:Int))/\c_ u C 7 (Vb Vg 3000)/\c_ u C 8 (.string dg)) (by kernel_rfl) (by exact⟨d2,d5,d7,d8⟩) (fun hHeld=> ?_);refine tkH_ (i:=0) (v:=_) rfl (by kernel_rfl) (fun _ _ _ h=>h) (aT2 ⟨by rfl,fun wz hSz=>by go_simp<;>with_reducible rfl⟩) hHeld ?_;try simp only[Act.put,aS4,aS2,aS1,aR8,aR9,aS0]
   refine tkH_ (i:=1) (v:=_) rfl (by kernel_rfl) (fun _ _ _ h=>h) (aT2 ⟨by rfl,fun wz hSz=>by go_simp<;>with_reducible rfl⟩) hHeld ?_;try simp only[Act.put,aS4,aS2,aS1,aR8,aR9,aS0]
   refine tkH_ (i:=2) (v:=_) rfl (by kernel_rfl) (fun _ _ _ h=>h) (aT2 ⟨by rfl,fun wz hSz=>by go_simp<;>with_reducible rfl⟩) hHeld ?_;try simp only[Act.put,aS4,aS2,aS1,aR8,aR9,aS0]
   refine tkH_ (i:=3) (v:=_) rfl (by kernel_rfl) (fun _ _ _ h=>h) (aT2 ⟨by rfl,fun wz hSz=>by go_simp<;>with_reducible rfl⟩) hHeld ?_;try simp only[Act.put,aS4,aS2,aS1,aR8,aR9,aS0]
   refine tkH_ (i:=4) (v:=_) rfl (by kernel_rfl) (fun _ _ _ h=>h) (aT2 ⟨by rfl,fun wz hSz=>by go_simp<;>with_reducible rfl⟩) hHeld ?_;try simp only[Act.put,aS4,aS2,aS1,aR8,aR9,aS0]
   refine tkH_ (i:=5) (v:=_) rfl (by kernel_rfl) (fun _ _ _ h=>h) (aT2 ⟨by rfl,fun wz hSz=>by go_simp<;>with_reducible rfl⟩) hHeld ?_;try simp only[Act.put,aS4,aS2,aS1,aR8,aR9,aS0]
   refine tkH_ (i:=6) (v:=_) rfl (by kernel_rfl) (fun _ _ _ h=>h) (aT2 ⟨by rfl,fun wz hSz=>by go_simp<;>with_reducible rfl⟩) hHeld ?_;try simp only[Act.put,aS4,aS2,aS1,aR8,aR9,aS0]
   refine tkH_ (i:=7) (v:=_) rfl (by kernel_rfl) (fun _ _ _ h=>h) (aT2 ⟨by rfl,fun wz hSz=>by go_simp<;>with_reducible rfl⟩) hHeld ?_;try simp only[Act.put,aS4,aS2,aS1,aR8,aR9,aS0]
   refine tkH_ (i:=8) (v:=_) rfl (by kernel_rfl) (fun _ _ _ h=>h) (aT2 ⟨by rfl,fun wz hSz=>by go_simp<;>with_reducible rfl⟩) hHeld ?_;try simp only[Act.put,aS4,aS2,aS1,aR8,aR9,aS0]
   refine tkH_ (i:=9) (v:=_) rfl (by kernel_rfl) (fun _ _ _ h=>h) (aT2 ⟨by rfl,fun wz hSz=>by go_simp<;>with_reducible rfl⟩) hHeld ?_;try simp only[Act.put,aS4,aS2,aS1,aR8,aR9,aS0]
   refine tkH_ (i:=10) (v:=_) rfl (by kernel_rfl) (fun _ _ _ h=>h) (aT2 ⟨by rfl,fun wz hSz=>by go_simp<;>with_reducible rfl⟩) hHeld ?_;try simp only[Act.put,aS4,aS2,aS1,aR8,aR9,aS0]
   refine tkH_ (i:=11) (v:=_) rfl (by kernel_rfl) (fun _ _ _ h=>h) (aT2 ⟨by rfl,fun wz hSz=>by go_simp<;>with_reducible rfl⟩) hHeld ?_;try simp only[Act.put,aS4,aS2,aS1,aR8,aR9,aS0]
   refine tkH_ (i:=12) (v:=_) rfl (by kernel_rfl) (fun _ _ _ h=>h) (aT2 ⟨by rfl,fun wz hSz=>by go_simp<;>with_reducible rfl⟩) hHeld ?_;try simp only[Act.put,aS4,aS2,aS1,aR8,aR9,aS0]
   refine tkH_ (i:=13) (v:=_) rfl (by kernel_rfl) (fun _ _ _ h=>h) (aT2 ⟨by rfl,fun wz hSz=>by go_simp<;>with_reducible rfl⟩) hHeld ?_;try simp only[Act.put,aS4,aS2,aS1,aR8,aR9,aS0]
   refine tkH_ (i:=14) (v:=_) rfl (by kernel_rfl) (fun _ _ _ h=>h) (aT2 ⟨by rfl,fun wz hSz=>by go_simp<;>with_reducible rfl⟩) hHeld ?_;try simp only[Act.put,aS4,aS2,aS1,aR8,aR9,aS0]
   refine tkH_ (i:=16) (v:=_) rfl (by kernel_rfl) (fun _ _ _ h=>h) (aT2 ⟨by rfl,fun wz hSz=>by go_simp<;>with_reducible rfl⟩) hHeld ?_;try simp only[Act.put,aS4,aS2,aS1,aR8,aR9,aS0]
   refine tkH_ (i:=17) (v:=_) rfl (by kernel_rfl) (fun _ _ _ h=>h) (aT2 ⟨by rfl,fun wz hSz=>by go_simp<;>with_reducible rfl⟩) hHeld ?_;try simp only[Act.put,aS4,aS2,aS1,aR8,aR9,aS0]
   refine wpAnyH_ready (rs:=[15]) (by kernel_rfl) (by simp) ?_;refine AllReadyH.cons rfl (fun K' hK=> ?_) AllReadyH.nil;go_simp
   refine on_ (HH _ HBC.drew) fun z1 hz1=>?_;have HZ1:Hid (gm wj.heap.size wj z1):=M0 ((aS8 _ wj).drew.trans hz1);have hz22:z1.cell? (a_ b2 2)=some (Vb Vg 3):=(HZ1.cell (p:=(a_ b2 2)) (aW5 _ _ d2)).trans d2;have hz25:z1.cell? (a_ b2 5)=some (Vb Vg (im.size:Int)):=(HZ1.cell (p:=(a_ b2 5)) (aW5 _ _ d5)).trans d5;have hzC7:z1.cell? (a_ C 7)=some (Vb Vg 3000):=(HZ1.cell (p:=(a_ C 7)) (aW5 _ _ d7)).trans d7;have hzC8:z1.cell? (a_ C 8)=some (.string dg):=(HZ1.cell (p:=(a_ C 8)) (aW5 _ _ d8)).trans d8;clear hz1 hHeld d2 d5 d7 d8;go_wp2_with fail;refine hK.out _ _ ⟨hz22,hz25,hzC7,hzC8⟩ (fun hHeld=> ?_);clear hK K';try simp only[Act.put,aS4,aS2,aS1,aR8,aR9,aS0]
   refine tkH_ (i:=18) (v:=_) rfl (by kernel_rfl) (fun _ _ _ h=>h) (aT2 ⟨by rfl,fun wz hSz=>by go_simp<;>with_reducible rfl⟩) hHeld ?_;try simp only[Act.put,aS4,aS2,aS1,aR8,aR9,aS0]
   refine tkH_ (i:=19) (v:=_) rfl (by kernel_rfl) (fun _ _ _ h=>h) (aT2 ⟨by rfl,fun wz hSz=>by go_simp<;>with_reducible rfl⟩) hHeld ?_;try simp only[Act.put,aS4,aS2,aS1,aR8,aR9,aS0]
   refine tkH_ (i:=20) (v:=_) rfl (by kernel_rfl) (fun _ _ _ h=>h) (aT2 ⟨by rfl,fun wz hSz=>by go_simp<;>with_reducible rfl⟩) hHeld ?_;try simp only[Act.put,aS4,aS2,aS1,aR8,aR9,aS0]
   refine tkH_ (i:=21) (v:=_) rfl (by kernel_rfl) (fun _ _ _ h=>h) (aT2 ⟨by rfl,fun wz hSz=>by go_simp<;>with_reducible rfl⟩) hHeld ?_;try simp only[Act.put,aS4,aS2,aS1,aR8,aR9,aS0]
   refine tkH_ (i:=22) (v:=_) rfl (by kernel_rfl) (fun _ _ _ h=>h) (aT2 ⟨by rfl,fun wz hSz=>by go_simp<;>with_reducible rfl⟩) hHeld ?_;try simp only[Act.put,aS4,aS2,aS1,aR8,aR9,aS0]
   refine tkH_ (i:=23) (v:=undef) rfl (by kernel_rfl) (fun _ _ _ h=>h) (aT7 ⟨by rfl,rfl⟩) hHeld ?_;try simp only[Act.put,aS4,aS2,aS1,aR8,aR9,aS0]
   refine tkH_ (i:=24) (v:=undef) rfl (by kernel_rfl) (fun _ _ _ h=>h) (aT7 ⟨by rfl,rfl⟩) hHeld ?_;try simp only[Act.put,aS4,aS2,aS1,aR8,aR9,aS0]
   refine tkH_ (i:=25) (v:=undef) rfl (by kernel_rfl) (fun _ _ _ h=>h) (aT7 ⟨by rfl,rfl⟩) hHeld ?_;try simp only[Act.put,aS4,aS2,aS1,aR8,aR9,aS0]
   refine tkH_ (i:=26) (v:=_) rfl (by kernel_rfl) (fun _ _ _ h=>h) (aT2 ⟨by rfl,fun wz hSz=>by go_simp<;>with_reducible rfl⟩) hHeld ?_;try simp only[Act.put,aS4,aS2,aS1,aR8,aR9,aS0]
   refine tkH_ (i:=27) (v:=_) rfl (by kernel_rfl) (fun _ _ _ h=>h) (aT2 ⟨by rfl,fun wz hSz=>by go_simp<;>with_reducible rfl⟩) hHeld ?_;try simp only[Act.put,aS4,aS2,aS1,aR8,aR9,aS0]
   refine tkH_ (i:=28) (v:=_) rfl (by kernel_rfl) (fun _ _ _ h=>h) (aT2 ⟨by rfl,fun wz hSz=>by go_simp<;>with_reducible rfl⟩) hHeld ?_;try simp only[Act.put,aS4,aS2,aS1,aR8,aR9,aS0]
   refine tkH_ (i:=29) (v:=_) rfl (by kernel_rfl) (fun _ _ _ h=>h) (aT2 ⟨by rfl,fun wz hSz=>by go_simp<;>with_reducible rfl⟩) hHeld ?_;try simp only[Act.put,aS4,aS2,aS1,aR8,aR9,aS0]
   refine tkH_ (i:=30) (v:=_) rfl (by kernel_rfl) (fun _ _ _ h=>h) (aT2 ⟨by rfl,fun wz hSz=>by go_simp<;>with_reducible rfl⟩) hHeld ?_;try simp only[Act.put,aS4,aS2,aS1,aR8,aR9,aS0]
   refine tkH_ (i:=31) (v:=_) rfl (by kernel_rfl) (fun _ _ _ h=>h) (aT2 ⟨by rfl,fun wz hSz=>by go_simp<;>with_reducible rfl⟩) hHeld ?_;try simp only[Act.put,aS4,aS2,aS1,aR8,aR9,aS0]
   refine tkH_ (i:=32) (v:=_) rfl (by kernel_rfl) (fun _ _ _ h=>h) (aT2 ⟨by rfl,fun wz hSz=>by go_simp<;>with_reducible rfl⟩) hHeld ?_;try simp only[Act.put,aS4,aS2,aS1,aR8,aR9,aS0]
   refine tkH_ (i:=33) (v:=_) rfl (by kernel_rfl) (fun _ _ _ h=>h) (aT2 ⟨by rfl,fun wz hSz=>by go_simp<;>with_reducible rfl⟩) hHeld ?_;try simp only[Act.put,aS4,aS2,aS1,aR8,aR9,aS0]
   refine tkH_ (i:=34) (v:=_) rfl (by kernel_rfl) (fun _ _ _ h=>h) (aT2 ⟨by rfl,fun wz hSz=>by go_simp<;>with_reducible rfl⟩) hHeld ?_;try simp only[Act.put,aS4,aS2,aS1,aR8,aR9,aS0]
   refine tkH_ (i:=35) (v:=_) rfl (by kernel_rfl) (fun _ _ _ h=>h) (aT2 ⟨by rfl,fun wz hSz=>by go_simp<;>with_reducible rfl⟩) hHeld ?_;try simp only[Act.put,aS4,aS2,aS1,aR8,aR9,aS0]
   refine tkH_ (i:=36) (v:=_) rfl (by kernel_rfl) (fun _ _ _ h=>h) (aT2 ⟨by rfl,fun wz hSz=>by go_simp<;>with_reducible rfl⟩) hHeld ?_;try simp only[Act.put,aS4,aS2,aS1,aR8,aR9,aS0]
   refine aY2 (by kernel_rfl) ?_ _;have hlen:=gB HLEN;go_wp2;go_roundg (fs.length-k)
   case measure=>omega
   exact⟨k+1,im,by omega,by omega,rfl,by go_num,M0 (HNX _ _ HZ1 (fun _=>rfl))⟩
end Ho
end Go.Proofs.YtdgacidndknceaaGreatDoor
