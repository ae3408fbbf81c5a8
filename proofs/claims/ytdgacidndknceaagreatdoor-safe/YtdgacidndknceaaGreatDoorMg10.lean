import Derived.Test.YtdgacidndknceaaGreatDoorMg09
import Derived.Test.YtdgacidndknceaaGreatDoorMg15
set_option linter.all false
set_option maxHeartbeats 8000000
set_option maxRecDepth 10000
open Go.ChangeShapes Go.WideShapes Go.ChangeAt Go.RowKit
open Go renaming World → fV, Calls → f_
open Go.RowKit renaming Below → gm
open Go.Proofs.Tryz renaming prog → Vh
open Go.Proofs.Tryz
namespace Go.Proofs.YtdgacidndknceaaGreatDoor
namespace Ho
open Bs Dh
def Y2:gU->UInt8->List UInt8
 |[],_=> []
 |o::r,c=>if o.1=c then o.2 else Y2 r c
theorem aq4(os:gU)(c:UInt8)(k:Nat)(h:k<os.length):Y2 (os.drop k) c=if os[k].1=c then os[k].2 else Y2 (os.drop (k+1)) c:=by
 rw[aW6 h];rfl
theorem Ii(a:Option Addr)(cap:Nat)(os:gU)(c:UInt8)(w:fV)(hA:Dh.At w a os)(hl:os.length<=1000):
  f_ Vh 67 #[.slice a os.length cap,.int .u8 c.toNat] w fun e w'=>e=.returned (.string ⟨(Y2 os c).toArray⟩)/\gm w.heap.size w w':=by
 have HA:=M0 hA;clear hA;go_enter func67,ntmps67;go_wp2;go_loopw [9] (fun i wr=>∃k:Nat,k<=os.length/\i=.int .i64 k/\Hid (Y2 os c=Y2 (os.drop k) c)/\Hid (gm w.heap.size w wr)) (fun i _=>os.length-(intOf i).toNat)
 case atStart=>exact⟨0,aV3 _,rfl,M0 rfl,M0 (aS8 _ _)⟩
 obtain⟨k,hk,rfl,HO,HW⟩:=hrel;rename fV=>wr;have hwz:=HW.size
 by_cases hlt:k<os.length
 ·obtain⟨ad,rfl,c0,c1⟩:=HA.below HW (aS5 _) k hlt
  have hd:=aq4 os c k hlt;obtain⟨oc,od,hcd⟩:∃x y,os[k]=(x,y):=⟨_,_,rfl⟩;rw[hcd]at c0 c1 hd;simp only at c0 c1 hd;have HD:=M0 (gB HO▸hd);obtain⟨s,hS⟩:∃s:ByteArray,s=⟨od.toArray⟩:=⟨_,rfl⟩;rw[<-hS]at c1;have HS:=M0 hS;clear hcd hd hS
  by_cases e:oc=c
  ·have q:(((oc.toNat:Nat):Int)==((c.toNat:Nat):Int))=true:=by rw[toNat_eq];simpa using e
   have HE:Hid (Y2 os c=od):=M0 (by rw[gB HD,aU0 e]);clear e HD HO;go_wp2;go_ret;refine⟨?_,HW.alloc hwz _⟩;rw[gB HE,<-gB HS];rfl
  have q:(((oc.toNat:Nat):Int)==((c.toNat:Nat):Int))=false:=by rw[toNat_eq];simpa using e
  have HE:Hid (Y2 os c=Y2 (os.drop (k+1)) c):=M0 (by rw[gB HD,aT4 e]);clear e HD HO;go_wp2;go_roundw
  case rel=>exact⟨k+1,by omega,by go_num,HE,M0 (HW.alloc hwz _)⟩
  simp[intOf];omega
 have e:k=os.length:=by omega
 have HE:Hid (Y2 os c=[]):=M0 (by rw[gB HO,e,bi9];rfl);clear HO e;go_wp2;go_ret;refine⟨?_,HW⟩;rw[gB HE];rfl
end Ho
namespace Ho
open Bs
theorem byte_back(x:Int)(h:0<=x/\x<256):((UInt8.ofNat x.toNat).toNat:Int)=x:=by
 simp;omega
def Xm(n:Int):List UInt8:=[UInt8.ofNat (n/16777216).toNat,UInt8.ofNat (n/65536%256).toNat,UInt8.ofNat (n/256%256).toNat,UInt8.ofNat (n%256).toNat]
theorem aB3(n:Int)(hn:0<=n/\n<=4294967295)(w:fV):f_ Vh 69 #[.int .u32 n] w fun ee w'=>ee=.returned (.string ⟨(Xm n).toArray⟩)/\gm w.heap.size w w':=by
 have hcv:∀(a b c d:Int),(0<=a/\a<256)->(0<=b/\b<256)->(0<=c/\c<256)->(0<=d/\d<256)->(convert 73 9 (.slice (some (a_ w.heap.size 0)) 4 4)).run Vh (w.alloc (.cells #[.int .u8 a,.int .u8 b,.int .u8 c,.int .u8 d] 5))=.ok (.string ⟨#[UInt8.ofNat a.toNat,UInt8.ofNat b.toNat,UInt8.ofNat c.toNat,UInt8.ofNat d.toNat]⟩) (w.alloc (.cells #[.int .u8 a,.int .u8 b,.int .u8 c,.int .u8 d] 5)):=fun a b c d ha hb hc hd=>by
  have q:=aY8 (P:=Vh) (w.alloc (.cells #[.int .u8 a,.int .u8 b,.int .u8 c,.int .u8 d] 5)) 73 9 5 (a_ w.heap.size 0) 4 [UInt8.ofNat a.toNat,UInt8.ofNat b.toNat,UInt8.ofNat c.toNat,UInt8.ofNat d.toNat] aW0 aY7 aX8 (fun j hj=>by
   have r:=fun j=>aS3 _ _ j _ _ _ (aS6 w (.cells #[.int .u8 a,.int .u8 b,.int .u8 c,.int .u8 d] 5))
   have hj4:j<4:=hj
   match j,hj4 with
   |0,_=>rw[show(((a_ w.heap.size 0):Addr).add 0)=(a_ w.heap.size 0)from rfl,r 0];exact bg2 (fun z=>some (Value.int .u8 z)) (byte_back a ha).symm
   |1,_=>rw[show(((a_ w.heap.size 0):Addr).add 1)=(a_ w.heap.size 1)from rfl,r 1];exact bg2 (fun z=>some (Value.int .u8 z)) (byte_back b hb).symm
   |2,_=>rw[show(((a_ w.heap.size 0):Addr).add 2)=(a_ w.heap.size 2)from rfl,r 2];exact bg2 (fun z=>some (Value.int .u8 z)) (byte_back c hc).symm
   |3,_=>rw[show(((a_ w.heap.size 0):Addr).add 3)=(a_ w.heap.size 3)from rfl,r 3];exact bg2 (fun z=>some (Value.int .u8 z)) (byte_back d hd).symm)
  exact q
 have hq:=hcv (n/16777216) (n/65536%256) (n/256%256) (n%256) (by omega) (by omega) (by omega) (by omega);clear hcv;go_enter func69,ntmps69;go_wp2;go_ret;exact⟨rfl,(aS8 _ _).alloc (aS5 _) _⟩
end Ho
namespace Ho
open Bs Js
variable{w w' u u':fV} {H:Nat} {h h':Host}
structure Dx (w u:fV) (H:Nat) (h:Host) (d:Nat) (cs:Array Value) (v:Value) (os:Dh.gU):Prop where
 at':At u H h
 cd:NA u
 tn:PU w u H
 b1:u.heap[d]?=some (.cells cs 132 (0,0))
 hi:w.heap.size<=d
 own:u.ownsRow w.heap.size 138 2 v os.length (Dh.gT os)
variable{d:Nat} {cs:Array Value} {v:Value} {os:Dh.gU}
theorem Dx.below(b:Dx w u H h d cs v os)(hb:gm u.heap.size u u'):Dx w u' H h d cs v os:=
 ⟨b.at'.below hb,b.cd.below hb,Sd b.tn hb,(hb.block _ (gG b.b1)).trans b.b1,b.hi,iN b.own (fun j hj=>hb.block j (b.own.lt j hj).2)⟩
theorem Dx.host(b:Dx w u H h d cs v os)(hH:H<w.heap.size)(h0:(0:Nat)≠H)(h1:(1:Nat)≠H)(k:At u' H h')(tn:PU u u' H):Dx w u' H h' d cs v os:=
 ⟨k,b.cd.of (tn.block _ b.cd.lt.1 h0) (tn.block _ b.cd.lt.2 h1),⟨tn.os.trans b.tn.os,tn.tape.trans b.tn.tape,tn.output.trans b.tn.output,aT9 b.tn.size tn.size,fun j hj hn=>(tn.block j (aU1 hj b.tn.size) hn).trans (b.tn.block j hj hn)⟩,(tn.block _ (gG b.b1) (by have:=b.hi;omega)).trans b.b1,b.hi,iN b.own (fun j hj=>tn.block j (b.own.lt j hj).2 (by have:=(b.own.lt j hj).1;omega))⟩
end Ho
namespace Ho
open Bs Js
variable{w w' u u':fV} {H:Nat} {h h':Host}
theorem ax9(kb:UInt8)(sv le:List UInt8)(j:Nat):(#[.int .u8 53,.string ⟨#[kb]⟩,.int .u8 54,.string ⟨sv.toArray⟩,.int .u8 51,.string ⟨le.toArray⟩,.int .u8 1,.string ⟨#[255,255,255,0]⟩,.int .u8 3,.string ⟨sv.toArray⟩]:Array Value)[j]?=(Dh.gT (Ws kb sv le))[j]?:=by
 rw[<-ba0];rfl
theorem bj6{b:Nat}{V W:fV}(h:gm b V W)(hb:b<=W.heap.size)(v:Value)(t:TypeId):gm b V (W.alloc (.cells #[v] t))/\(W.alloc (.cells #[v] t)).cell? (a_ W.heap.size 0)=some v:=
 ⟨h.alloc hb _,aS3 _ _ 0 _ _ _ (aS6 _ _)⟩
theorem VT{P:Program}{ops:Array Oper}{Q:Exit->Act->fV->Prop}{md:Region.Mode}{S:fV->Prop}{fuel:Nat}{listed:Array Bool}{a:Act}{W:fV}{g:Nat}{v:Value}(hg:W.cell? (a_ g 0)=some v)(hS:S W)
  (h:S W/\W.cell? (a_ g 0)=some v->wpAnyH P md ops Q (fun u=>S u/\u.cell? (a_ g 0)=some v) fuel listed a W):wpAnyH P md ops Q S fuel listed a W:=
 Wh (S':=fun u=>S u/\u.cell? (a_ g 0)=some v) (fun _ h=>h.1) _ _ _ _ (h ⟨hS,hg⟩)
theorem av8(k:At w H h)(c:NA w)(hH0:(0:Nat)≠H)(hH1:(1:Nat)≠H)(f t:Int)(L:ByteArray)(gF cl yo ne:Int)(os:Dh.gU)(kb q:UInt8)(hq:Y2 os 53=[q])(hqk:q=1/\kb=2∨q=3/\kb=5)(hol:os.length<=1000)(hx:0<=gF/\gF<=4294967295)(hn:0<=h.next/\h.next<=4294967295)(hle:0<=h.gK/\h.gK<=4294967295)
  (hR:∀u,f_ Vh 66 #[.string L] u fun ee w'=>Lp.IE os.length (Dh.gT os) u (fun sa sc=>.tuple #[.agg #[.bool false,.int .u32 gF,.int .u32 cl,.int .u32 yo,.int .u32 ne,.int .u8 2,.int .u8 0,.int .u8 0,.int .u8 0,.int .u8 0,.int .u8 42,.slice sa os.length sc],.int .i64 0]) ee w'):
  f_ Vh 40 #[p_ H,.agg #[.int .u16 f,.int .u16 t,.string L]] w fun ee w'=>∃g,ee=.returned (.tuple #[.slice (some (a_ g 0)) 1 1,.bool true])/\w'.ownsRow w.heap.size 9 1 (.slice (some (a_ g 0)) 1 1) 1 [.string (h.frame 67 68 (Dh.nH true gF 0 167772215 h.next [2,0,0,0,0,42] (Ws kb (Xm 167772161) (Xm h.gK))) 167772161 167772215)]/\At w' H h.Ww/\PU w w' H:=by
 have hlt:=gG k;have HR:=M0 hR;have HK:=M0 k;have HC:=M0 c;clear hR k c;go_enter func40,ntmps40;go_wp2_with fail;refine(HR _).mono ?_;rintro ee u1 ⟨sa,sc,rfl,o1,hb1⟩;obtain⟨cs,hcs⟩:∃cs:Array Value,cs=#[.bool false,.int .u32 gF,.int .u32 cl,.int .u32 yo,.int .u32 ne,.int .u8 2,.int .u8 0,.int .u8 0,.int .u8 0,.int .u8 0,.int .u8 42,.slice sa os.length sc]:=⟨_,rfl⟩;obtain⟨X,hX⟩:=ex_ (u1.alloc (.cells #[.bool false,.int .u32 gF,.int .u32 cl,.int .u32 yo,.int .u32 ne,.int .u8 2,.int .u8 0,.int .u8 0,.int .u8 0,.int .u8 0,.int .u8 42,.slice sa os.length sc] 132));obtain⟨d,hd⟩:=ex_ u1.heap.size;have HX:Hid (Dx w X H h d cs (.slice sa os.length sc) os):=M0 (by
  have hb0:gm w.heap.size w (w.alloc (.cells #[.int .u16 f,.int .u16 t,.string L] 69)):=(aS8 _ _).alloc (aS5 _) _
  have hb2:gm u1.heap.size u1 X:=by rw[hX];exact(aS8 _ _).alloc (aS5 _) _
  have hb3:=hb0.trans (hb1.mono hb0.size)
  have hb4:=hb3.trans (hb2.mono hb3.size)
  refine⟨HK.below hb4,HC.below hb4,⟨hb4.os,hb4.tape,hb4.output,hb4.size,fun j hj _=>hb4.block j hj⟩,by rw[hX,hd,hcs];exact aS6 u1 _,by rw[hd];exact hb3.size,?_⟩
  have o2:=iN o1 (w':=X) (fun j hj=>hb2.block j (o1.lt j hj).2)
  exact⟨o2.1,o2.2.imp id (fun⟨g,cap,cur,e1,e2,e3⟩=>⟨g,cap,cur,e1,aT9 hb0.size e2,e3⟩)⟩)
 have HC1:Hid (NA u1):=M0 (by
  have hb0:gm w.heap.size w (w.alloc (.cells #[.int .u16 f,.int .u16 t,.string L] 69)):=(aS8 _ _).alloc (aS5 _) _
  exact HC.below (hb0.trans (hb1.mono hb0.size)))
 obtain⟨g0,g1,g2,g3,g4,g5,_⟩:=gB HC1;have hc0:=HC1.lt.1;have hc1:(0:Nat)≠u1.heap.size:=aU4 hc0;have hmq:∀u,(Op.equalIn 10000 30 (.agg #[.int .u8 2,.int .u8 0,.int .u8 0,.int .u8 0,.int .u8 0,.int .u8 42]) (.agg #[.int .u8 2,.int .u8 0,.int .u8 0,.int .u8 0,.int .u8 0,.int .u8 42])).run Vh u=.ok true u:=fun u=>Sq.Yx 9998 2 0 0 0 0 42 u;have HOP:Hid (∀u,Dx w u H h d cs (.slice sa os.length sc) os->f_ Vh 67 #[.slice sa os.length sc,.int .u8 53] u fun e w'=>e=.returned (.string ⟨#[q]⟩)/\gm u.heap.size u w'):=M0 (fun u hu=>by
  have z:=Ii sa sc os 53 u (xw hu.own) hol
  rw[hq]at z
  exact z)
 clear o1 hb1 HK HC HR HC1;have HBD:Hid ((q==3)=decide (kb=5)):=M0 (by rcases hqk with⟨rfl,rfl⟩|⟨rfl,rfl⟩<;>decide);obtain⟨bq,hbq⟩:∃bq:Bool,bq=(q==3):=⟨_,rfl⟩;have hcmp:((⟨#[q]⟩:ByteArray).toList==(⟨#[3]⟩:ByteArray).toList)=bq:=by
  rw[hbq,aV2,aV2];simp
 obtain⟨kI,hkI⟩:∃kI:Int,kI=(kb.toNat:Int):=⟨_,rfl⟩;have HKI:=M0 hkI;have HBQ:Hid (bq=true/\kI=5∨bq=false/\kI=2):=M0 (by
  rcases hqk with⟨rfl,rfl⟩|⟨rfl,rfl⟩
  ·exact aT7 ⟨by rw[hbq];decide,by rw[hkI];decide⟩
  exact aT2 ⟨by rw[hbq];decide,by rw[hkI];decide⟩)
 have HD:=M0 hd;have HBQ0:=M0 hbq;clear hbq hkI hd;go_upto_region 5 with fail;rw[<-hX,<-gB HD];clear g0 g1 g2 g3 g4 g5 hc0 hc1 hX hmq;have e6:X.cell? (a_ d 11)=some (.slice sa os.length sc):=by rw[aS3 X _ 11 _ _ _ HX.b1,hcs];rfl
 go_cut [32] (fun v wc=>v=.bool bq/\Hid (Dx w wc H h d cs (.slice sa os.length sc) os));case first=>
  go_wp2_with fail;refine on_ (HOP _ HX) fun u2 hb2=>?_;have HX2:=M0 (HX.below hb2);clear hb2 HX e6;go_wp2;go_meet;exact⟨by rw[gB HBQ0],HX2⟩
 rename fV=>wc;obtain⟨rfl,HX2⟩:=hcut;clear HX e6;go_upto_if 32 with fail;go_cut [8] (fun v wd=>v=.int .u8 kI/\wd=wc);case first=>
  rcases gB HBQ with⟨rfl,e⟩|⟨rfl,e⟩
  ·go_wp2
   go_meet;exact⟨by rw[e],rfl⟩
  go_wp2;go_meet;exact⟨by rw[e],rfl⟩
 obtain⟨rfl,rfl⟩:=hcut;obtain⟨aB,haB⟩:∃aB:ByteArray,aB=Dh.nH true gF 0 167772215 h.next [2,0,0,0,0,42] (Ws kb (Xm 167772161) (Xm h.gK)):=⟨_,rfl⟩;go_upto_region 7 with fail;go_cut [9] (fun v wd=>v=.string aB/\Hid (Dx w wd H h d cs (.slice sa os.length sc) os));case first=>
  obtain⟨F4,hF4⟩:∃F4:Int->ByteArray,F4=fun x=>⟨(Xm x).toArray⟩:=⟨_,rfl⟩;have HF4:Hid (∀(u:fV) (x:Int),0<=x/\x<=4294967295->f_ Vh 69 #[.int .u32 x] u fun e w'=>e=.returned (.string (F4 x))/\gm u.heap.size u w'):=M0 (fun u x hx=>by rw[hF4];exact aB3 x hx u);have HV:=HX2;obtain⟨V,hV⟩:=ex_ wc;rw[<-hV]at HX2 ⊢;clear hV HV;have HCE:Hid (∀u,gm V.heap.size V u->u.cell? (a_ d 1)=some (.int .u32 gF)/\u.cell? (a_ H 2)=some (.int .u32 h.next)/\u.cell? (a_ H 1)=some (.int .u32 h.gK)/\u.cell? (a_ 0 0)=some (.int .u8 2)/\u.cell? (a_ 0 1)=some (.int .u8 0)/\u.cell? (a_ 0 2)=some (.int .u8 0)/\u.cell? (a_ 0 3)=some (.int .u8 0)/\u.cell? (a_ 0 4)=some (.int .u8 0)/\u.cell? (a_ 0 5)=some (.int .u8 42)):=M0 (fun u hu=>by
   have b:=HX2.below hu
   obtain⟨g0,g1,g2,g3,g4,g5,_⟩:=b.cd
   exact⟨by rw[aS3 u _ 1 _ _ _ b.b1,hcs];rfl,b.at'.cell 2,b.at'.cell 1,g0,g1,g2,g3,g4,g5⟩)
  have HCV:Hid (∀(u:fV) (g:Nat),u.cell? (a_ g 0)=some (.int .u8 kI)->(convert 73 9 (.slice (some (a_ g 0)) 1 1)).run Vh u=.ok (.string ⟨#[kb]⟩) u):=M0 (fun u g hg=>by
   have z:=Zf kb.toNat kb.toNat_lt u g (by rw[hg,gB HKI])
   rw[UInt8.ofNat_toNat]at z
   exact z)
  obtain⟨ek,hek⟩:∃ek:Int,ek=Dh.r_ true gF 0 167772215 h.next [2,0,0,0,0,42] (Ws kb (Xm 167772161) (Xm h.gK)):=⟨_,rfl⟩;have HWD:Hid (∀(u:fV) (g:Nat),u.heap[g]?=some (.cells #[.int .u8 53,.string ⟨#[kb]⟩,.int .u8 54,.string (F4 167772161),.int .u8 51,.string (F4 h.gK),.int .u8 1,.string ⟨#[255,255,255,0]⟩,.int .u8 3,.string (F4 167772161)] 138 (0,0))->f_ Vh 68 #[.agg #[.bool true,.int .u32 gF,.int .u32 0,.int .u32 167772215,.int .u32 h.next,.int .u8 2,.int .u8 0,.int .u8 0,.int .u8 0,.int .u8 0,.int .u8 42,.slice (some (a_ g 0)) 5 5]] u fun e w'=>e=.returned (.tuple #[.string aB,.int .i64 ek])/\gm u.heap.size u w'):=M0 (fun u g hg=>by
   rw[haB,hek]
   refine Dh.Wj true gF 0 167772215 h.next 2 0 0 0 0 42 (some (a_ g 0)) 5 (Ws kb (Xm 167772161) (Xm h.gK)) u hx (by decide) (by decide) hn ?_ ?_
   ·refine Dh.At.Jr (fun j x hj=> ?_)
    have hadd:((a_ g 0):Addr).add j=(a_ g j):=jB g j
    rw[hadd,aS3 u _ j _ _ _ hg,<-hj,hF4]
    exact ax9 kb _ _ j
   simp[Ws,Dh.heavy,Xm])
  clear hF4 hek haB hcmp;refine wp_region_held_drew (S:=fun u=>u.cell? (a_ d 1)=some (.int .u32 gF)/\u.cell? (a_ H 2)=some (.int .u32 h.next)/\u.cell? (a_ H 1)=some (.int .u32 h.gK)/\u.cell? (a_ 0 0)=some (.int .u8 2)/\u.cell? (a_ 0 1)=some (.int .u8 0)/\u.cell? (a_ 0 2)=some (.int .u8 0)/\u.cell? (a_ 0 3)=some (.int .u8 0)/\u.cell? (a_ 0 4)=some (.int .u8 0)/\u.cell? (a_ 0 5)=some (.int .u8 42)) (by kernel_rfl) (HCE _ ((aS8 _ _).drew)) (fun hHeld=> ?_);have HBe:Hid (gm V.heap.size V V.drew):=M0 ((aS8 _ _).drew);generalize V.drew=V1 at*;refine tkH_ (i:=0) (v:=_) rfl (by kernel_rfl) (fun _ _ _ h=>h) (aT2 ⟨by rfl,fun wz hSz=>by go_simp<;>with_reducible rfl⟩) hHeld ?_;try simp only[Act.put,aS4,aS2,aS1,aR8,aR9,aS0]
  refine tkH_ (i:=1) (v:=_) rfl (by kernel_rfl) (fun _ _ _ h=>h) (aT2 ⟨by rfl,fun wz hSz=>by go_simp<;>with_reducible rfl⟩) hHeld ?_;try simp only[Act.put,aS4,aS2,aS1,aR8,aR9,aS0]
  refine tkH_ (i:=2) (v:=_) rfl (by kernel_rfl) (fun _ _ _ h=>h) (aT2 ⟨by rfl,fun wz hSz=>by go_simp<;>with_reducible rfl⟩) hHeld ?_;try simp only[Act.put,aS4,aS2,aS1,aR8,aR9,aS0]
  refine tkH_ (i:=3) (v:=_) rfl (by kernel_rfl) (fun _ _ _ h=>h) (aT2 ⟨by rfl,fun wz hSz=>by go_simp<;>with_reducible rfl⟩) hHeld ?_;try simp only[Act.put,aS4,aS2,aS1,aR8,aR9,aS0]
  refine tkH_ (i:=4) (v:=_) rfl (by kernel_rfl) (fun _ _ _ h=>h) (aT2 ⟨by rfl,fun wz hSz=>by go_simp<;>with_reducible rfl⟩) hHeld ?_;try simp only[Act.put,aS4,aS2,aS1,aR8,aR9,aS0]
  refine tkH_ (i:=5) (v:=_) rfl (by kernel_rfl) (fun _ _ _ h=>h) (aT2 ⟨by rfl,fun wz hSz=>by go_simp<;>with_reducible rfl⟩) hHeld ?_;try simp only[Act.put,aS4,aS2,aS1,aR8,aR9,aS0]
  refine tkH_ (i:=6) (v:=_) rfl (by kernel_rfl) (fun _ _ _ h=>h) (aT2 ⟨by rfl,fun wz hSz=>by go_simp<;>with_reducible rfl⟩) hHeld ?_;try simp only[Act.put,aS4,aS2,aS1,aR8,aR9,aS0]
  refine tkH_ (i:=7) (v:=_) rfl (by kernel_rfl) (fun _ _ _ h=>h) (aT2 ⟨by rfl,fun wz hSz=>by go_simp<;>with_reducible rfl⟩) hHeld ?_;try simp only[Act.put,aS4,aS2,aS1,aR8,aR9,aS0]
  refine tkH_ (i:=13) (v:=_) rfl (by kernel_rfl) (fun _ _ _ h=>h) (aT2 ⟨by rfl,fun wz hSz=>by go_simp<;>with_reducible rfl⟩) hHeld ?_;try simp only[Act.put,aS4,aS2,aS1,aR8,aR9,aS0]
  refine tkH_ (i:=14) (v:=_) rfl (by kernel_rfl) (fun _ _ _ h=>h) (aT2 ⟨by rfl,fun wz hSz=>by go_simp<;>with_reducible rfl⟩) hHeld ?_;try simp only[Act.put,aS4,aS2,aS1,aR8,aR9,aS0]
  refine tkH_ (i:=15) (v:=_) rfl (by kernel_rfl) (fun _ _ _ h=>h) (aT2 ⟨by rfl,fun wz hSz=>by go_simp<;>with_reducible rfl⟩) hHeld ?_;try simp only[Act.put,aS4,aS2,aS1,aR8,aR9,aS0]
  refine tkH_ (i:=16) (v:=_) rfl (by kernel_rfl) (fun _ _ _ h=>h) (aT2 ⟨by rfl,fun wz hSz=>by go_simp<;>with_reducible rfl⟩) hHeld ?_;try simp only[Act.put,aS4,aS2,aS1,aR8,aR9,aS0]
  refine tkH_ (i:=19) (v:=_) rfl (by kernel_rfl) (fun _ _ _ h=>h) (aT2 ⟨by rfl,fun wz hSz=>by go_simp<;>with_reducible rfl⟩) hHeld ?_;try simp only[Act.put,aS4,aS2,aS1,aR8,aR9,aS0]
  refine wpAnyH_ready (rs:=[8,11]) (by kernel_rfl) (by simp) ?_;refine AllReadyH.cons rfl (fun K hK=> ?a0) (AllReadyH.cons rfl (fun K hK=> ?b0) AllReadyH.nil);case' b0=>
   go_simp
   refine on_ (HF4 _ _ (by decide)) fun u2 hb2=>?_;have HBe:=M0 (HBe.trans (hb2.mono HBe.size));clear hb2 hHeld;go_wp2_with fail;refine hK.out _ _ (HCE _ HBe) (fun hHeld=> ?_);clear hK K;try simp only[Act.put,aS4,aS2,aS1,aR8,aR9,aS0]
   refine tkH_ (i:=12) (v:=_) rfl (by kernel_rfl) (fun _ _ _ h=>h) (aT2 ⟨by rfl,fun wz hSz=>by go_simp<;>with_reducible rfl⟩) hHeld ?_;try simp only[Act.put,aS4,aS2,aS1,aR8,aR9,aS0]
   refine wpAnyH_ready (rs:=[8,17]) (by kernel_rfl) (by simp) ?_;refine AllReadyH.cons rfl (fun K hK=> ?a1) (AllReadyH.cons rfl (fun K hK=> ?b1) AllReadyH.nil)
  case' b1=>
   go_simp
   refine on_ (HF4 _ _ hle) fun u2 hb2=>?_;have HBe:=M0 (HBe.trans (hb2.mono HBe.size));clear hb2 hHeld;go_wp2_with fail;refine hK.out _ _ (HCE _ HBe) (fun hHeld=> ?_);clear hK K;try simp only[Act.put,aS4,aS2,aS1,aR8,aR9,aS0]
   refine tkH_ (i:=18) (v:=_) rfl (by kernel_rfl) (fun _ _ _ h=>h) (aT2 ⟨by rfl,fun wz hSz=>by go_simp<;>with_reducible rfl⟩) hHeld ?_;try simp only[Act.put,aS4,aS2,aS1,aR8,aR9,aS0]
   refine wpAnyH_ready (rs:=[8,20]) (by kernel_rfl) (by simp) ?_;refine AllReadyH.cons rfl (fun K hK=> ?a2) (AllReadyH.cons rfl (fun K hK=> ?b2) AllReadyH.nil)
  case' b2=>
   go_simp
   refine on_ (HF4 _ _ (by decide)) fun u2 hb2=>?_;have HBe:=M0 (HBe.trans (hb2.mono HBe.size));clear hb2 hHeld;go_wp2_with fail;refine hK.out _ _ (HCE _ HBe) (fun hHeld=> ?_);clear hK K;try simp only[Act.put,aS4,aS2,aS1,aR8,aR9,aS0]
   refine tkH_ (i:=21) (v:=_) rfl (by kernel_rfl) (fun _ _ _ h=>h) (aT2 ⟨by rfl,fun wz hSz=>by go_simp<;>with_reducible rfl⟩) hHeld ?_;try simp only[Act.put,aS4,aS2,aS1,aR8,aR9,aS0]
   refine wpAnyH_ready (rs:=[8]) (by kernel_rfl) (by simp) ?_;refine AllReadyH.cons rfl (fun K hK=> ?a3) AllReadyH.nil
  all_goals
   go_simp
   obtain⟨hb8,hg8⟩:=bj6 HBe HBe.size (.int .u8 kI) 5;have HBe:=M0 hb8;have HG:=M0 hg8;clear hHeld hb8 hg8;refine hK.out _ _ (HCE _ HBe) (fun hHeld=> ?_);clear hK K;try simp only[Act.put,aS4,aS2,aS1,aR8,aR9,aS0]
   refine VT HG hHeld (fun hHeld=> ?_);refine tkH_ (i:=9) (v:=_) rfl (by kernel_rfl) (fun _ _ _ h=>h) (aT2 ⟨by rfl,fun wz hSz=>by have hcv:=HCV wz _ hSz.2;go_simp<;>with_reducible rfl⟩) hHeld ?_;try simp only[Act.put,aS4,aS2,aS1,aR8,aR9,aS0]
   refine tkH_ (i:=10) (v:=_) rfl (by kernel_rfl) (fun _ _ _ h=>h) (aT2 ⟨by rfl,fun wz hSz=>by go_simp<;>with_reducible rfl⟩) hHeld ?_;try simp only[Act.put,aS4,aS2,aS1,aR8,aR9,aS0]
  case' a0=>
   refine wpAnyH_ready (rs:=[11]) (by kernel_rfl) (by simp) ?_;refine AllReadyH.cons rfl (fun K hK=> ?_) AllReadyH.nil;go_simp
   refine on_ (HF4 _ _ (by decide)) fun u2 hb2=>?_;have HBe:=M0 (HBe.trans (hb2.mono HBe.size));have HG:=M0 (cell_below HG hb2);clear hb2 hHeld;go_wp2_with fail;refine hK.out _ _ (⟨HCE _ HBe,HG⟩) (fun hHeld=> ?_);clear hK K;try simp only[Act.put,aS4,aS2,aS1,aR8,aR9,aS0]
   refine tkH_ (i:=12) (v:=_) rfl (by kernel_rfl) (fun _ _ _ h=>h) (aT2 ⟨by rfl,fun wz hSz=>by go_simp<;>with_reducible rfl⟩) hHeld ?_;try simp only[Act.put,aS4,aS2,aS1,aR8,aR9,aS0]
  case' a0|a1=>
   refine wpAnyH_ready (rs:=[17]) (by kernel_rfl) (by simp) ?_;refine AllReadyH.cons rfl (fun K hK=> ?_) AllReadyH.nil;go_simp
   refine on_ (HF4 _ _ hle) fun u2 hb2=>?_;have HBe:=M0 (HBe.trans (hb2.mono HBe.size));have HG:=M0 (cell_below HG hb2);clear hb2 hHeld;go_wp2_with fail;refine hK.out _ _ (⟨HCE _ HBe,HG⟩) (fun hHeld=> ?_);clear hK K;try simp only[Act.put,aS4,aS2,aS1,aR8,aR9,aS0]
   refine tkH_ (i:=18) (v:=_) rfl (by kernel_rfl) (fun _ _ _ h=>h) (aT2 ⟨by rfl,fun wz hSz=>by go_simp<;>with_reducible rfl⟩) hHeld ?_;try simp only[Act.put,aS4,aS2,aS1,aR8,aR9,aS0]
  case' a0|a1|a2=>
   refine wpAnyH_ready (rs:=[20]) (by kernel_rfl) (by simp) ?_;refine AllReadyH.cons rfl (fun K hK=> ?_) AllReadyH.nil;go_simp
   refine on_ (HF4 _ _ (by decide)) fun u2 hb2=>?_;have HBe:=M0 (HBe.trans (hb2.mono HBe.size));have HG:=M0 (cell_below HG hb2);clear hb2 hHeld;go_wp2_with fail;refine hK.out _ _ (⟨HCE _ HBe,HG⟩) (fun hHeld=> ?_);clear hK K;try simp only[Act.put,aS4,aS2,aS1,aR8,aR9,aS0]
   refine tkH_ (i:=21) (v:=_) rfl (by kernel_rfl) (fun _ _ _ h=>h) (aT2 ⟨by rfl,fun wz hSz=>by go_simp<;>with_reducible rfl⟩) hHeld ?_;try simp only[Act.put,aS4,aS2,aS1,aR8,aR9,aS0]
  all_goals
   refine wpAnyH_ready (rs:=[22]) (by kernel_rfl) (by simp) ?_;refine AllReadyH.cons rfl (fun K hK=> ?_) AllReadyH.nil;go_simp
   have HE:=M0 (HBe.alloc HBe.size (.cells #[.int .u8 53,.string ⟨#[kb]⟩,.int .u8 54,.string (F4 167772161),.int .u8 51,.string (F4 h.gK),.int .u8 1,.string ⟨#[255,255,255,0]⟩,.int .u8 3,.string (F4 167772161)] 138));have HG:=M0 (cell_below HG ((aS8 _ _).alloc (aS5 _) (.cells #[.int .u8 53,.string ⟨#[kb]⟩,.int .u8 54,.string (F4 167772161),.int .u8 51,.string (F4 h.gK),.int .u8 1,.string ⟨#[255,255,255,0]⟩,.int .u8 3,.string (F4 167772161)] 138)));clear hHeld;refine hK.out _ _ (⟨HCE _ HE,HG⟩) (fun hHeld=> ?_);clear hK K;try simp only[Act.put,aS4,aS2,aS1,aR8,aR9,aS0]
   refine tkH_ (i:=23) (v:=_) rfl (by kernel_rfl) (fun _ _ _ h=>h) (aT2 ⟨by rfl,fun wz hSz=>by go_simp<;>with_reducible rfl⟩) hHeld ?_;try simp only[Act.put,aS4,aS2,aS1,aR8,aR9,aS0]
   refine wpAnyH_ready (rs:=[24]) (by kernel_rfl) (by simp) ?_;refine AllReadyH.cons rfl (fun K hK=> ?_) AllReadyH.nil;go_simp
   refine on_ (HWD _ _ (by first|exact aS6 _ _|exact jq _ _ _)) fun u9 hb9=>?_;have HF:=M0 (HE.trans (hb9.mono HE.size));have HG:=M0 (cell_below HG hb9);clear hb9 hHeld;go_wp2_with fail;refine hK.out _ _ (⟨HCE _ HF,HG⟩) (fun hHeld=> ?_);clear hK K;try simp only[Act.put,aS4,aS2,aS1,aR8,aR9,aS0]
   refine tkH_ (i:=25) (v:=_) rfl (by kernel_rfl) (fun _ _ _ h=>h) (aT2 ⟨by rfl,fun wz hSz=>by go_simp<;>with_reducible rfl⟩) hHeld ?_;try simp only[Act.put,aS4,aS2,aS1,aR8,aR9,aS0]
   refine tkH_ (i:=26) (v:=_) rfl (by kernel_rfl) (fun _ _ _ h=>h) (aT2 ⟨by rfl,fun wz hSz=>by go_simp<;>with_reducible rfl⟩) hHeld ?_;try simp only[Act.put,aS4,aS2,aS1,aR8,aR9,aS0]
   refine tkH_ (i:=27) (v:=_) rfl (by kernel_rfl) (fun _ _ _ h=>h) (aT2 ⟨by rfl,fun wz hSz=>by go_simp<;>with_reducible rfl⟩) hHeld ?_;try simp only[Act.put,aS4,aS2,aS1,aR8,aR9,aS0]
   refine tkH_ (i:=28) (v:=_) rfl (by kernel_rfl) (fun _ _ _ h=>h) (aT2 ⟨by rfl,fun wz hSz=>by go_simp<;>with_reducible rfl⟩) hHeld ?_;try simp only[Act.put,aS4,aS2,aS1,aR8,aR9,aS0]
   refine tkH_ (i:=29) (v:=(.int .i64 ek)) rfl (by kernel_rfl) (fun _ _ _ h=>h) (aT2 ⟨by rfl,?_⟩) hHeld ?_
   ·(intro wz hSz;go_simp)
   try simp only[Act.put,aS4,aS2,aS1,aR8,aR9,aS0]
   refine aY2 (by kernel_rfl) ?_ _;go_wp2;go_meet;exact⟨rfl,M0 (HX2.below HF)⟩
 rename fV=>wd;obtain⟨rfl,HX3⟩:=hcut;clear HX2;obtain⟨fr,hfr⟩:=ex_ (h.frame 67 68 aB 167772161 167772215);have HWR:Hid (∀u,Dx w u H h d cs (.slice sa os.length sc) os->f_ Vh 70 #[p_ H,.agg #[.int .u16 67,.int .u16 68,.string aB],.int .u32 167772161,.int .u32 167772215] u fun ee w'=>ee=.returned (.string fr)/\Dx w w' H h.Ww d cs (.slice sa os.length sc) os):=M0 (fun u hu=>by
  refine(Zj hu.at' hu.cd hH0 hH1 67 68 167772161 167772215 aB (by decide) (by decide) (by decide) (by decide) ?_).mono ?_
  ·rw[haB]
   exact aT9 (ad6 _ _ _ _ _ _ _) (by decide)
  rintro ee w' ⟨rfl,k6,t6⟩
  exact⟨by rw[hfr],hu.host hlt hH0 hH1 k6 t6⟩)
 have HOQ:Hid (∀u,(∃h',Dx w u H h' d cs (.slice sa os.length sc) os)->f_ Vh 67 #[.slice sa os.length sc,.int .u8 53] u fun e w'=>e=.returned (.string ⟨#[q]⟩)/\gm u.heap.size u w'):=M0 (fun u ⟨h',hu⟩=>by
  have z:=Ii sa sc os 53 u (xw hu.own) hol
  rw[hq]at z
  exact z)
 have HCE:Hid (∀u,(∃h',Dx w u H h' d cs (.slice sa os.length sc) os)->u.cell? (a_ d 11)=some (.slice sa os.length sc)):=M0 (fun u ⟨h',hu⟩=>by rw[aS3 u _ 11 _ _ _ hu.b1,hcs];rfl);have HFR:=M0 hfr;have HAB:=M0 haB;have HV:Hid (Dx w wd H h d cs (.slice sa os.length sc) os):=HX3;have HK5:Hid (kb=5->(kI==5)=true):=M0 (fun e=>by rw[gB HKI,e];rfl);clear hfr haB hq hcmp HBD HBQ0 HOP;go_wp2_with fail
 rcases hqk with⟨rfl,rfl⟩|⟨rfl,rfl⟩
 all_goals
  try have hk5:=HK5 rfl
  refine wp_region_held_drew (S:=fun u=>u.cell? (a_ d 11)=some (.slice sa os.length sc)) (by kernel_rfl) (HCE _ ⟨_,HV.below ((aS8 _ _).drew)⟩) (fun hHeld=> ?_);refine tkH_ (i:=0) (v:=_) rfl (by kernel_rfl) (fun _ _ _ h=>h) (aT2 ⟨by rfl,fun wz hSz=>by go_simp<;>with_reducible rfl⟩) hHeld ?_;try simp only[Act.put,aS4,aS2,aS1,aR8,aR9,aS0]
  refine tkH_ (i:=1) (v:=_) rfl (by kernel_rfl) (fun _ _ _ h=>h) (aT2 ⟨by rfl,fun wz hSz=>by go_simp<;>with_reducible rfl⟩) hHeld ?_;try simp only[Act.put,aS4,aS2,aS1,aR8,aR9,aS0]
  refine tkH_ (i:=2) (v:=_) rfl (by kernel_rfl) (fun _ _ _ h=>h) (aT2 ⟨by rfl,fun wz hSz=>by go_simp<;>with_reducible rfl⟩) hHeld ?_;try simp only[Act.put,aS4,aS2,aS1,aR8,aR9,aS0]
  refine tkH_ (i:=5) (v:=_) rfl (by kernel_rfl) (fun _ _ _ h=>h) (aT2 ⟨by rfl,fun wz hSz=>by go_simp<;>with_reducible rfl⟩) hHeld ?_;try simp only[Act.put,aS4,aS2,aS1,aR8,aR9,aS0]
  refine tkH_ (i:=6) (v:=_) rfl (by kernel_rfl) (fun _ _ _ h=>h) (aT2 ⟨by rfl,fun wz hSz=>by go_simp<;>with_reducible rfl⟩) hHeld ?_;try simp only[Act.put,aS4,aS2,aS1,aR8,aR9,aS0]
  refine wpAnyH_ready (rs:=[3]) (by kernel_rfl) (by simp) ?_;refine AllReadyH.cons rfl (fun K hK=> ?_) AllReadyH.nil;go_simp
  refine on_ (HWR _ (HV.below ((aS8 _ _).drew))) fun u6 h6=>?_;have H6:=M0 h6;clear h6 hHeld;go_wp2_with fail;refine hK.out _ _ (HCE _ ⟨_,H6⟩) (fun hHeld=> ?_);clear hK K;try simp only[Act.put,aS4,aS2,aS1,aR8,aR9,aS0]
  refine wpAnyH_ready (rs:=[4,7]) (by kernel_rfl) (by simp) ?_;refine AllReadyH.cons rfl (fun K hK=> ?_) (AllReadyH.cons rfl (fun K hK=> ?_) AllReadyH.nil);case' refine_1=>
   go_simp
   have HO:=M0 (Dm _ fr H6.tn.size);have H6:=M0 (H6.below ((aS8 _ _).alloc (aS5 _) (.cells #[.string fr] 9)));clear hHeld;refine hK.out _ _ (HCE _ ⟨_,H6⟩) (fun hHeld=> ?_);clear hK K;try simp only[Act.put,aS4,aS2,aS1,aR8,aR9,aS0]
   refine wpAnyH_ready (rs:=[7]) (by kernel_rfl) (by simp) ?_;refine AllReadyH.cons rfl (fun K hK=> ?_) AllReadyH.nil;go_simp
   refine on_ (HOQ _ ⟨_,H6⟩) fun u7 hb7=>?_;have H6:=M0 (H6.below hb7);have HO:=M0 (iN HO (fun j hj=>hb7.block j (HO.lt j hj).2));clear hb7 hHeld;go_wp2_with fail;refine hK.out _ _ (HCE _ ⟨_,H6⟩) (fun hHeld=> ?_);clear hK K;try simp only[Act.put,aS4,aS2,aS1,aR8,aR9,aS0]
  case' refine_2=>
   go_simp
   refine on_ (HOQ _ ⟨_,H6⟩) fun u7 hb7=>?_;have H6:=M0 (H6.below hb7);clear hb7 hHeld;go_wp2_with fail;refine hK.out _ _ (HCE _ ⟨_,H6⟩) (fun hHeld=> ?_);clear hK K;try simp only[Act.put,aS4,aS2,aS1,aR8,aR9,aS0]
  all_goals
   refine tkH_ (i:=8) (v:=_) rfl (by kernel_rfl) (fun _ _ _ h=>h) (aT2 ⟨by rfl,fun wz hSz=>by go_simp<;>with_reducible rfl⟩) hHeld ?_;try simp only[Act.put,aS4,aS2,aS1,aR8,aR9,aS0]
   refine tkH_ (i:=9) (v:=_) rfl (by kernel_rfl) (fun _ _ _ h=>h) (aT2 ⟨by rfl,fun wz hSz=>by go_simp<;>with_reducible rfl⟩) hHeld ?_;try simp only[Act.put,aS4,aS2,aS1,aR8,aR9,aS0]
   first|(refine tkH_ (i:=10) (v:=_) rfl (by kernel_rfl) (fun _ _ _ h=>h) (aT2 ⟨by rfl,fun wz hSz=>by go_simp<;>with_reducible rfl⟩) hHeld ?_)|(refine tkH_ (i:=10) (v:=undef) rfl (by kernel_rfl) (fun _ _ _ h=>h) (aT7 ⟨by rfl,rfl⟩) hHeld ?_)
   try simp only[Act.put,aS4,aS2,aS1,aR8,aR9,aS0]
   first|(refine tkH_ (i:=11) (v:=_) rfl (by kernel_rfl) (fun _ _ _ h=>h) (aT2 ⟨by rfl,fun wz hSz=>by go_simp<;>with_reducible rfl⟩) hHeld ?_)|(refine tkH_ (i:=11) (v:=undef) rfl (by kernel_rfl) (fun _ _ _ h=>h) (aT7 ⟨by rfl,rfl⟩) hHeld ?_)
   try simp only[Act.put,aS4,aS2,aS1,aR8,aR9,aS0]
   refine tkH_ (i:=12) (v:=_) rfl (by kernel_rfl) (fun _ _ _ h=>h) (aT2 ⟨by rfl,fun wz hSz=>by go_simp<;>with_reducible rfl⟩) hHeld ?_;try simp only[Act.put,aS4,aS2,aS1,aR8,aR9,aS0]
  case' refine_2=>
   refine wpAnyH_ready (rs:=[4]) (by kernel_rfl) (by simp) ?_;refine AllReadyH.cons rfl (fun K hK=> ?_) AllReadyH.nil;go_simp
   have HO:=M0 (Dm _ fr H6.tn.size);have H6:=M0 (H6.below ((aS8 _ _).alloc (aS5 _) (.cells #[.string fr] 9)));clear hHeld;refine hK.out _ _ (HCE _ ⟨_,H6⟩) (fun hHeld=> ?_);clear hK K;try simp only[Act.put,aS4,aS2,aS1,aR8,aR9,aS0]
  all_goals
   refine tkH_ (i:=13) (v:=_) rfl (by kernel_rfl) (fun _ _ _ h=>h) (aT2 ⟨by rfl,fun wz hSz=>by go_simp<;>with_reducible rfl⟩) hHeld ?_;try simp only[Act.put,aS4,aS2,aS1,aR8,aR9,aS0]
   refine tkH_ (i:=14) (v:=(.bool true)) rfl (by kernel_rfl) (fun _ _ _ h=>h) (aT2 ⟨by rfl,?_⟩) hHeld ?_
   ·(intro wz hSz;go_simp)
   try simp only[Act.put,aS4,aS2,aS1,aR8,aR9,aS0]
   refine aY2 (by kernel_rfl) ?_ _;go_wp2;go_ret2;refine⟨_,rfl,?_,H6.at',H6.tn⟩;rw[<-gB HAB,<-gB HFR];exact HO
end Ho
namespace Ho
open Bs Js
variable{w0 w w':fV} {P:Nat→Prop} {Q B H G:Nat} {m m':Mc} {h h':Host} {K:Nat→Nat}
theorem XO{s:ByteArray}(hq:m.cq=[s])(hend:m.ended=false)(Z:Mc->Prop)(hZ:∀mz,Z mz->mz.cq=[])
  (HF:∀(w0:fV) (P:Nat->Prop) (u:fV) (B:Nat),Tk K w0 P->Mx w0 P u B m.jP->f_ Vh 54 #[p_ B,.string s] u fun ee w'=>ee=.returned (.tuple #[])/\∃mz,Z mz/\Mx w0 P w' B mz):
  XI (Tk K) m Z:=fun w Q B hb hr=>
 ae6 hb Z (ax7 hb.mx s hq hend Z hZ (fun u hu=>HF _ _ u B hr hu))
def nx(m:Mc)(s:ByteArray):Mc:=(m.put s).jP
theorem Zq{s:ByteArray}(hq:m.cq=[])(hr:0<m.rx):(m.put s).cq=[s]:=by
 unfold Mc.put;rw[hq,aU0 (by simpa using hr)];rfl
theorem Y9{s:ByteArray}(hq:m.cq=[])(hr:0<m.rx):nx m s={m with cf:=(m.cf+1)%m.rx}:=by
 cases m
 dsimp only at hq hr;subst hq;unfold nx Mc.put;rw[aU0 (by simpa using hr)];rfl
theorem Xo{s:ByteArray}:(m.put s).ended=m.ended:=by
 unfold Mc.put
 split<;>rfl
structure Cf (K:Nat->Nat) (s:List UInt8) (wn:Nat) (m:Mc):Prop where
 ok:m.Ok
 k0:m.k0=2
 k1:m.k1=0
 k2:m.k2=0
 k3:m.k3=0
 k4:m.k4=0
 k5:m.k5=42
 name:m.name=⟨#[107,101,114,110,101,108]⟩
 cap:m.cap=600000
 gQ:m.gQ.data.toList=Hs.Xk K s
 blk:m.blk=8
 win:m.win=wn
 rx:m.rx=16
 tx:m.tx=16
 cq:m.cq=[]
theorem Cf.card{s:List UInt8}{wn:Nat}(c:Cf K s wn m):m.card=[2,0,0,0,0,42]:=by
 unfold Mc.card;rw[c.k0,c.k1,c.k2,c.k3,c.k4,c.k5]
theorem Cf.taken{s:List UInt8}{wn:Nat}(c:Cf K s wn m):Cf K s wn m.taken:=
 ⟨⟨c.ok.1,c.ok.2,c.ok.3,c.ok.4,c.ok.5,c.ok.6,c.ok.7,c.ok.8,c.ok.9,c.ok.10,c.ok.11,c.ok.12,c.ok.13,c.ok.14,c.ok.15,c.ok.16⟩,c.k0,c.k1,c.k2,c.k3,c.k4,c.k5,c.name,c.cap,c.gQ,c.blk,c.win,c.rx,c.tx,c.cq⟩
theorem Cf.next{s:List UInt8}{wn:Nat}(c:Cf K s wn m)(f:ByteArray):Cf K s wn (nx m f):=by
 rw[Y9 c.cq (by rw[c.rx];decide)];exact⟨⟨c.ok.1,c.ok.2,c.ok.3,c.ok.4,c.ok.5,c.ok.6,c.ok.7,c.ok.8,c.ok.9,c.ok.10,c.ok.11,c.ok.12,c.ok.13,c.ok.14,c.ok.15,c.ok.16⟩,c.k0,c.k1,c.k2,c.k3,c.k4,c.k5,c.name,c.cap,c.gQ,c.blk,c.win,c.rx,c.tx,c.cq⟩
theorem Xi(m:Mc):m.taken.gq=[]:=by
 show m.gq.drop m.gq.length=[];exact bi9
def aa2(img:ByteArray):Host:=⟨img,4294967295,167772161,true,0,0,0,0,0,0,0,0⟩
structure Hc (img:ByteArray) (h:Host):Prop where
 image:h.image=img
 gK:h.gK=4294967295
 next:h.next=167772161
 opts:h.opts=true
 id:0<=h.id/\h.id<=65535
theorem Hc.Ww{img:ByteArray}(c:Hc img h):Hc img h.Ww:=⟨c.image,c.gK,c.next,c.opts,QQ _⟩
end Ho
namespace Ho
open Bs Js
variable{w0 w w':fV} {P:Nat→Prop} {Q B H G:Nat} {m m':Mc} {h h':Host} {K:Nat→Nat} {s:List UInt8} {wn:Nat} {img:ByteArray}
theorem Cf.sent(c:Cf K s wn m)(f:ByteArray):Cf K s wn (m.sent f):=
 ⟨c.ok.sent f,by rw[aO1];exact c.k0,by rw[aM6];exact c.k1,by rw[aL0];exact c.k2,by rw[aM2];exact c.k3,by rw[aL4];exact c.k4,by rw[aO0];exact c.k5,by rw[aF6];exact c.name,by rw[aK3];exact c.cap,by rw[aB8];exact c.gQ,by rw[aJ0];exact c.blk,by rw[aH5];exact c.win,by rw[aM3];exact c.rx,by rw[aO2];exact c.tx,by rw[aN5];exact c.cq⟩
theorem Cf.Ww(c:Cf K s wn m):Cf K s wn m.Ww:=
 ⟨c.ok.Ww,c.k0,c.k1,c.k2,c.k3,c.k4,c.k5,c.name,c.cap,c.gQ,c.blk,c.win,c.rx,c.tx,c.cq⟩
def YX(id gF:Int)(kb:UInt8)(os:Dh.gU):ByteArray:=og.ni [255,255,255,255,255,255,2,0,0,0,0,42] 2048 (Ip.Db id 64 17 0 4294967295 (Ud.sH 68 67 0 4294967295 (Dh.nH false gF 0 0 0 [2,0,0,0,0,42] (kY kb os))))
theorem aA9(c:Cf K s wn m)(hst:m.st<4)(hg:m.gq=[])(kb:UInt8)(os:Dh.gU):m.say kb os=m.Ww.sent (YX m.id m.gF kb os)/\(m.say kb os).gq=[YX m.id m.gF kb os]/\Cf K s wn (m.say kb os):=by
 have ha:m.addr=0:=by unfold Mc.addr;rw[aU0 hst]
 have e:m.say kb os=m.Ww.sent (YX m.id m.gF kb os):=by
  show m.Ww.sent _=_;unfold Mc.lD Mc.qz YX;rw[show m.Ww.card=m.card from rfl,c.card,ha];rfl
 refine⟨e,?_,by rw[e];exact c.Ww.sent _⟩;rw[e,ah6 _ _ (by show m.gq.length≠m.tx;rw[hg,c.tx];decide)];show m.gq++_=_;rw[hg];rfl
structure S0 (K:Nat->Nat) (s:List UInt8) (wn:Nat) (m:Mc):Prop where
 cf:Cf K s wn m
 st:m.st=1
 gq:∃i,(0<=i/\i<=65535)/\m.gq=[YX i m.gF 1 []]
 cd:m.cd=.map []
 ph:m.phase=0
 now:m.now=1
 img:m.ql=[]
structure S1 (K:Nat->Nat) (s:List UInt8) (wn:Nat) (m:Mc):Prop where
 cf:Cf K s wn m
 st:m.st=2
 gq:∃i,(0<=i/\i<=65535)/\m.gq=[YX i m.gF 3 [(50,g_ 167772215),(54,g_ 167772161)]]
 iB:m.iB=167772215
 iO:m.iO=167772161
 cd:m.cd=.map []
 ph:m.phase=0
 now:m.now=1
 img:m.ql=[]
def ad8(h:Host)(gF:Int)(kb:UInt8):ByteArray:=h.frame 67 68 (Dh.nH true gF 0 167772215 h.next [2,0,0,0,0,42] (Ws kb (Xm 167772161) (Xm h.gK))) 167772161 167772215
theorem YF(c:Hc img h)(i gF:Int)(hi:0<=i/\i<=65535)(hx:0<=gF/\gF<=4294967295)(kq kb:UInt8)(os:Dh.gU)(hk:kq=1/\kb=2∨kq=3/\kb=5)(hbad:Dh.bad (kY kq os)=false)(hadd:Dh.gW [] (kY kq os)=kY kq os)(ho:Y2 (kY kq os) 53=[kq])(hl:(kY kq os).length<=1000)(hz:(Dh.mr false gF 0 0 0 [2,0,0,0,0,42] (kY kq os)).length<=1472):
  YC NA h (YX i gF kq os) [ad8 h gF kb] h.Ww:=by
 intro w H ka cd hng;have hH0:(0:Nat)≠H:=fun e=>absurd (e▸hng) (by decide);have hH1:(1:Nat)≠H:=fun e=>absurd (e▸hng) (by decide);refine aC0 ka cd 255 255 255 255 255 255 i 0 4294967295 68 _ hi (by decide) (by decide) (by decide) (ad6 _ _ _ _ _ _ _) _ (fun u ku cu hb=> ?_);refine(av8 ku cu hH0 hH1 68 67 _ gF 0 0 0 (kY kq os) kb kq ho hk hl hx (by rw[c.next];decide) (by rw[c.gK];decide) (fun u=>aJ6 false gF 0 0 0 2 0 0 0 0 42 (kY kq os) hx (by decide) (by decide) (by decide) hbad hadd hz u)).mono ?_;rintro ee w' ⟨g,rfl,o,k2,t2⟩;refine⟨_,_,rfl,some (a_ g 0),1,rfl,Yb o hb.size,k2,?_⟩;exact⟨t2.os.trans hb.os,t2.tape.trans hb.tape,t2.output.trans hb.output,aT9 hb.size t2.size,fun j hj hn=>(t2.block j (aU1 hj hb.size) hn).trans (hb.block j hj)⟩
theorem Yk(h:Host)(f t fr ta:Int)(L:ByteArray):(h.frame f t L fr ta).size<=2000:=by
 unfold Host.frame;have h1:(Ud.sH f t fr ta L).size<=1480:=WI _ _ _ _ _;have h2:=ah0 h.Ww.id fr ta _ h1;have h3:=(Xj 2 0 0 0 0 42 2 0 0 0 0 7 2048 _ (by decide) h2).2;exact aT9 h3 (by decide)
theorem ab6(h:Host)(gF:Int)(kb:UInt8):(ad8 h gF kb).size<=2000:=by
 unfold ad8;exact Yk _ _ _ _ _ _
theorem an9(kb:UInt8)(gF:Int):(Dh.mr false gF 0 0 0 [2,0,0,0,0,42] (kY 1 [])).length<=1472/\(Dh.mr false gF 0 0 0 [2,0,0,0,0,42] (kY 3 [(50,g_ 167772215),(54,g_ 167772161)])).length<=1472:=by
 constructor
 ·unfold Dh.mr
  rw[aS9,aS9,Dh.jY _ _ _ _ _ _ _ rfl];simp[kY,Dh.jb,Dh.mq,jH]
 unfold Dh.mr;rw[aS9,aS9,Dh.jY _ _ _ _ _ _ _ rfl];simp[kY,Dh.jb,Dh.mq,jH,g_,iY,iy]
theorem ag5(c:Cf K s wn m)(f:ByteArray):∃m2,m2=nx m.taken f/\Cf K s wn m2/\m2.gq=[]/\m2.st=m.st/\m2.gF=m.gF/\m2.iB=m.iB/\m2.iO=m.iO/\m2.cd=m.cd/\m2.phase=m.phase/\m2.now=m.now/\m2.ql=m.ql/\m2.draw=m.draw:=by
 have e:nx m.taken f={m.taken with cf:=(m.taken.cf+1)%m.taken.rx}:=Y9 c.taken.cq (by rw[c.taken.rx];decide);refine⟨_,rfl,c.taken.next f,?_,?_,?_,?_,?_,?_,?_,?_,?_,?_⟩
 ·rw[e];exact Xi m
 all_goals rw[e];rfl
def H0(img:ByteArray)(h:Host):Prop:=Hc img h/\h.port=0
theorem aI3:XJ (Tk K) NA (fun m h=>S0 K s wn m/\H0 img h) (fun m h=>S1 K s wn m/\H0 img h):=by
 rintro m h ⟨s0,hc,hpt⟩;obtain⟨i,hi,eg⟩:=s0.gq;obtain⟨F,hF⟩:=ex_ (ad8 h m.gF 2);have HA:=YF hc i m.gF hi s0.cf.ok.gF 1 2 [] (aT2 ⟨rfl,rfl⟩) rfl rfl rfl (by decide) (an9 1 m.gF).1;have HZ:=ab6 h m.gF 2;rw[<-hF]at HA HZ;refine⟨_,[F],h.Ww,fun k m1=>(k=0/\m1=m.taken)∨(k=1/\S1 K s wn m1),eg,HA,by simp,?_,aT2 ⟨rfl,rfl⟩,?_,?_⟩
 ·intro x hx
  rw[bi4]at hx;rw[hx];exact HZ
 ·intro k hk m1 hm1
  have hk0:k=0:=by simp at hk;omega
  subst hk0;have hm0:m1=m.taken:=by
   rcases hm1 with⟨_,e⟩|⟨e,_⟩
   ·exact e
   cases e
  subst hm0;have ct:=s0.cf.taken;refine⟨by rw[ct.cq,ct.rx];decide,?_⟩;show XI (Tk K) (m.taken.put F) _;obtain⟨m2,hm2,c2,g2,t2,x2,_,_,d2,p2,n2,i2,_⟩:=ag5 s0.cf F;refine XO (Zq ct.cq (by rw[ct.rx];decide)) (by rw[Xo];show(m.phase==3||m.phase==4)=false;rw[s0.ph];rfl) _ ?_ (fun w0 P u B hr hu=> ?_)
  ·rintro mz (⟨e,_⟩|⟨_,z⟩)
   ·cases e
   exact z.cf.cq
  change Mx w0 P u B (nx m.taken F)at hu;rw[<-hm2]at hu;have q:=am2 hu hr Tk.base c2.ok (t2.trans s0.st) 2 0 0 0 0 7 h.Ww.id 167772161 167772215 167772215 h.next 10 0 0 1 255 255 255 255 (QQ _) (by decide) (by decide) (by decide) (by decide) (by rw[hc.next];decide);rw[c2.k0,c2.k1,c2.k2,c2.k3,c2.k4,c2.k5,x2]at q;have ef:ad8 h m.gF 2=og.ni [2,0,0,0,0,42,2,0,0,0,0,7] 2048 (Ip.Db h.Ww.id 9 17 167772161 167772215 (Ud.sH 67 68 167772161 167772215 (Dh.nH true m.gF 0 167772215 h.next [2,0,0,0,0,42] (Ws 2 [10,0,0,1] [255,255,255,255])))):=by
   unfold ad8;rw[hc.gK];rfl
  rw[hF,ef];refine q.mono ?_;rintro ee w' ⟨rfl,mz,rfl,hm⟩;refine⟨rfl,_,aT7 ⟨rfl,?_⟩,hm⟩;have o3:((m2.offers 167772215 (vK 10 0 0 1)).oV.jR).Ok:=(c2.ok.offers _ _ (by decide) (aw7 _ _ _ _)).oV.jR (by show(0:Int)<=3;decide);have c3:Cf K s wn (m2.offers 167772215 (vK 10 0 0 1)).oV.jR:=⟨o3,c2.k0,c2.k1,c2.k2,c2.k3,c2.k4,c2.k5,c2.name,c2.cap,c2.gQ,c2.blk,c2.win,c2.rx,c2.tx,c2.cq⟩;obtain⟨e1,e2,e3⟩:=aA9 c3 (by show(2:Int)<4;decide) g2 3 (m2.offers 167772215 (vK 10 0 0 1)).qD;refine⟨e3,?_,⟨_,o3.id,?_⟩,?_,?_,?_,?_,?_,?_⟩
  ·rw[e1,ab1];rfl
  ·rw[e2,e1,aB0];rfl
  ·rw[e1,ZG];rfl
  ·rw[e1,aK6];rfl
  ·rw[e1,aa9];exact d2.trans s0.cd
  ·rw[e1,W_];exact p2.trans s0.ph
  ·rw[e1,Yl];exact n2.trans s0.now
  rw[e1,Xt];exact i2.trans s0.img
 rintro m1 (⟨e,_⟩|⟨_,z⟩)
 ·cases e
 exact⟨z,hc.Ww,hpt⟩
def Yg:ByteArray:=og.ni [255,255,255,255,255,255,2,0,0,0,0,42] 2054 (WM.vE 1 [2,0,0,0,0,42] 0 [0,0,0,0,0,0] 167772215)
structure S2 (K:Nat->Nat) (s:List UInt8) (wn:Nat) (q:List ByteArray) (m:Mc):Prop where
 cf:Cf K s wn m
 st:m.st=3
 gq:m.gq=q
 iB:m.iB=167772215
 mask:m.mask=4294967040
 yz:m.yz=167772161
 FJ:m.FJ=167772161
 gr:m.gr=1
 cd:m.cd=.map []
 ph:m.phase=0
 img:m.ql=[]
def aN3:Dh.gU:=Ws 5 [10,0,0,1] [255,255,255,255]
theorem aE0(hn:h.next=167772161):m.yQ aN3 h.next (vK 10 0 0 1)=({m with iO:=167772161,gr:=m.now,mask:=4294967040,yz:=167772161,FJ:=167772161,ends:=false,old:=2147483647,iZ:=3758096377,over:=4294967295,st:=3}:Mc).ask m.iB:=by
 have ht:yJ.pF aN3=some 4294967295:=by decide
 rw[hn];unfold Mc.yQ;rw[ht];rfl
theorem aJ3:XJ (Tk K) NA (fun m h=>S1 K s wn m/\H0 img h) (fun m h=>(S2 K s wn [Yg] m/\m.now=1)/\H0 img h):=by
 rintro m h ⟨s0,hc,hpt⟩;obtain⟨i,hi,eg⟩:=s0.gq;obtain⟨F,hF⟩:=ex_ (ad8 h m.gF 5);have HA:=YF hc i m.gF hi s0.cf.ok.gF 3 5 [(50,g_ 167772215),(54,g_ 167772161)] (aT7 ⟨rfl,rfl⟩) rfl rfl rfl (by decide) (an9 1 m.gF).2;have HZ:=ab6 h m.gF 5;rw[<-hF]at HA HZ;refine⟨_,[F],h.Ww,fun k m1=>(k=0/\m1=m.taken)∨(k=1/\S2 K s wn [Yg] m1/\m1.now=1),eg,HA,by simp,?_,aT2 ⟨rfl,rfl⟩,?_,?_⟩
 ·intro x hx
  rw[bi4]at hx;rw[hx];exact HZ
 ·intro k hk m1 hm1
  have hk0:k=0:=by simp at hk;omega
  subst hk0;have hm0:m1=m.taken:=by
   rcases hm1 with⟨_,e⟩|⟨e,_⟩
   ·exact e
   cases e
  subst hm0;have ct:=s0.cf.taken;refine⟨by rw[ct.cq,ct.rx];decide,?_⟩;show XI (Tk K) (m.taken.put F) _;obtain⟨m2,hm2,c2,g2,t2,x2,a2,v2,d2,p2,n2,i2,_⟩:=ag5 s0.cf F;refine XO (Zq ct.cq (by rw[ct.rx];decide)) (by rw[Xo];show(m.phase==3||m.phase==4)=false;rw[s0.ph];rfl) _ ?_ (fun w0 P u B hr hu=> ?_)
  ·rintro mz (⟨e,_⟩|⟨_,z,_⟩)
   ·cases e
   exact z.cf.cq
  change Mx w0 P u B (nx m.taken F)at hu;rw[<-hm2]at hu;have ha2:m2.iB=167772215:=a2.trans s0.iB;have q:=av5 hu hr Tk.base c2.ok (t2.trans s0.st) 2 0 0 0 0 7 h.Ww.id 167772161 167772215 h.next 10 0 0 1 255 255 255 255 (QQ _) (by decide) (by decide) (by rw[v2,s0.iO];decide) (by rw[hc.next];decide);rw[c2.k0,c2.k1,c2.k2,c2.k3,c2.k4,c2.k5,x2,ha2]at q;have ef:ad8 h m.gF 5=og.ni [2,0,0,0,0,42,2,0,0,0,0,7] 2048 (Ip.Db h.Ww.id 9 17 167772161 167772215 (Ud.sH 67 68 167772161 167772215 (Dh.nH true m.gF 0 167772215 h.next [2,0,0,0,0,42] (Ws 5 [10,0,0,1] [255,255,255,255])))):=by
   unfold ad8;rw[hc.gK];rfl
  rw[hF,ef];refine on_ q ?_;rintro w' ⟨mz,hmz,hm⟩;refine⟨rfl,_,aT7 ⟨rfl,?_⟩,hm⟩;have e0:mz=({m2 with iO:=167772161,gr:=m2.now,mask:=4294967040,yz:=167772161,FJ:=167772161,ends:=false,old:=2147483647,iZ:=3758096377,over:=4294967295,st:=3}:Mc).ask m2.iB:=hmz.trans (aE0 hc.next);obtain⟨m3,hm3⟩:∃m3:Mc,m3={m2 with iO:=167772161,gr:=m2.now,mask:=4294967040,yz:=167772161,FJ:=167772161,ends:=false,old:=2147483647,iZ:=3758096377,over:=4294967295,st:=3}:=⟨_,rfl⟩;rw[<-hm3]at e0;have o2:=c2.ok;have c3:Cf K s wn m3:=by
   rw[hm3];exact⟨⟨o2.1,o2.2,o2.3,o2.4,by show(0:Int)<=167772161/\(167772161:Int)<=4294967295;decide,o2.6,by show(0:Int)<=4294967040/\(4294967040:Int)<=4294967295;decide,by show(0:Int)<=167772161/\(167772161:Int)<=4294967295;decide,by show(0:Int)<=167772161/\(167772161:Int)<=4294967295;decide,by show(0:Int)<=2147483647/\(2147483647:Int)<=4294967295;decide,by show(0:Int)<=3758096377/\(3758096377:Int)<=4294967295;decide,by show(0:Int)<=4294967295/\(4294967295:Int)<=4294967295;decide,o2.13,o2.14,o2.15,o2.16⟩,c2.k0,c2.k1,c2.k2,c2.k3,c2.k4,c2.k5,c2.name,c2.cap,c2.gQ,c2.blk,c2.win,c2.rx,c2.tx,c2.cq⟩
  have e1:mz=m3.sent Yg:=by
   rw[e0,ha2];show m3.sent _=_;unfold Mc.Ej Yg;rw[c3.card];rfl
  have g3:m3.gq=[]:=by rw[hm3];exact g2
  refine⟨⟨by rw[e1];exact c3.sent _,?_,?_,?_,?_,?_,?_,?_,?_,?_,?_⟩,?_⟩
  ·rw[e1,ab1,hm3]
  ·rw[e1,ah6 _ _ (by rw[g3,c3.tx];decide),g3];rfl
  ·rw[e1,ZG,hm3];exact ha2
  ·rw[e1,Y7,hm3]
  ·rw[e1,ac7,hm3]
  ·rw[e1,ac9,hm3]
  ·rw[e1,aN9,hm3];exact n2.trans s0.now
  ·rw[e1,aa9,hm3];exact d2.trans s0.cd
  ·rw[e1,W_,hm3];exact p2.trans s0.ph
  ·rw[e1,Xt,hm3];exact i2.trans s0.img
  rw[e1,Yl,hm3];exact n2.trans s0.now
 rintro m1 (⟨e,_⟩|⟨_,z⟩)
 ·cases e
 exact⟨z,hc.Ww,hpt⟩
theorem S2.taken{q:List ByteArray}(z:S2 K s wn q m):S2 K s wn [] m.taken:=⟨z.cf.taken,z.st,Xi m,z.iB,z.mask,z.yz,z.FJ,z.gr,z.cd,z.ph,z.img⟩
theorem aI4:XJ (Tk K) NA (fun m h=>(S2 K s wn [Yg] m/\m.now=1)/\H0 img h) (fun m h=>(S2 K s wn [] m/\m.now=1)/\H0 img h):=by
 rintro m h ⟨⟨z,hnow⟩,hh⟩;refine⟨Yg,[],h,fun k m1=>m1=m.taken,z.gq,?_,by simp,by simp,rfl,fun k hk=>absurd hk (by simp),?_⟩
 ·intro w H ka cd hng
  refine on_ (au6 ka cd) ?_;rintro w' ⟨k2,t2⟩;exact⟨none,0,rfl,aV8 _ _ _ _,k2,t2⟩
 rintro m1 rfl;exact⟨⟨z.taken,hnow⟩,hh⟩
theorem BL(x:Int)(h:0<=x/\x<=100000):wrap64 x=x:=by
 unfold wrap64;omega
structure I0 (K:Nat->Nat) (s:List UInt8) (wn:Nat) (m:Mc):Prop where
 cf:Cf K s wn m
 st:m.st=0
 gq:m.gq=[]
 cd:m.cd=.map []
 ph:m.phase=0
 now:m.now=0
 img:m.ql=[]
theorem Cf.at(c:Cf K s wn m)(b:Nat):Cf K s wn (m.at b):=
 ⟨c.ok.at b,c.k0,c.k1,c.k2,c.k3,c.k4,c.k5,c.name,c.cap,c.gQ,c.blk,c.win,c.rx,c.tx,c.cq⟩
theorem Cf.clock(c:Cf K s wn m)(d:Int)(hd:0<=d/\d<=4294967295):Cf K s wn (m.clock d):=
 ⟨c.ok.clock d hd,c.k0,c.k1,c.k2,c.k3,c.k4,c.k5,c.name,c.cap,c.gQ,c.blk,c.win,c.rx,c.tx,c.cq⟩
theorem aF0(i:I0 K s wn m)(b:Nat):S0 K s wn ((m.nY 0).at b):=by
 have e:m.nY 0=(m.clock 0).off:=by
  unfold Mc.nY;rw[aT4 (by show ¬(m.phase==3||m.phase==4)=true;rw[i.ph];decide)];unfold Mc.nz;rw[aU0 (show(m.clock 0).st=0 from i.st)]
 have o0:=i.cf.ok;obtain⟨m1,hm1⟩:∃m1:Mc,m1=(({m.clock 0 with gF:=(m.clock 0).draw}:Mc).n_.jR):=⟨_,rfl⟩;have c1:Cf K s wn m1:=by
  rw[hm1];refine⟨((o0.clock 0 (by decide)).Sj.n_.jR (by show(0:Int)<=3;decide)),i.cf.k0,i.cf.k1,i.cf.k2,i.cf.k3,i.cf.k4,i.cf.k5,i.cf.name,i.cf.cap,i.cf.gQ,i.cf.blk,i.cf.win,i.cf.rx,i.cf.tx,i.cf.cq⟩
 obtain⟨e1,e2,e3⟩:=aA9 c1 (by rw[hm1];show(1:Int)<4;decide) (by rw[hm1];exact i.gq) 1 [];have e4:m.nY 0=m1.say 1 []:=by rw[e,hm1];rfl
 rw[e4];refine⟨e3.at b,?_,⟨_,c1.ok.id,?_⟩,?_,?_,?_,?_⟩
 ·show(m1.say 1 []).st=1
  rw[e1,ab1,hm1];rfl
 ·show(m1.say 1 []).gq=[YX m1.id (m1.say 1 []).gF 1 []]
  rw[e2,e1,aB0];rfl
 ·show(m1.say 1 []).cd=.map []
  rw[e1,aa9,hm1];exact i.cd
 ·show(m1.say 1 []).phase=0
  rw[e1,W_,hm1];exact i.ph
 ·show(m1.say 1 []).now=1
  rw[e1,Yl,hm1];show wrap64 (m.now+1)=1;rw[i.now,BL _ (by decide)];rfl
 show(m1.say 1 []).ql=[];rw[e1,Xt,hm1];exact i.img
theorem aH1(i:I0 K s wn m)(Z:Mc->Prop)(hZ:∀mz,S0 K s wn mz->Z mz):ao6 (Tk K) m 0 Z:=fun w Q B hb hr=>by
 refine on_ (Br hb ⟨i.cf.ok,aT2 i.st,i.cd,aT2 i.ph⟩ (fun e=>by rw[i.st]at e;cases e) 0 (by decide)) ?_;rintro w' ⟨b,hm⟩;exact⟨rfl,_,hZ _ (aF0 i b),hm⟩
theorem aI6(z:S2 K s wn [] m)(hn:m.now=1)(Z:Mc->Prop)(hZ:∀mz,S2 K s wn [] mz->mz.now=2->Z mz):ao6 (Tk K) m 7 Z:=fun w Q B hb hr=>by
 refine on_ (Br hb ⟨z.cf.ok,aT7 (aT7 (aT7 z.st)),z.cd,aT2 z.ph⟩ (fun _=>by rw[hn,z.gr,BL _ (by decide),BL _ (by decide)];decide) 7 (by decide)) ?_;rintro w' ⟨b,hm⟩;have e:m.nY 7=m.clock 7:=by
  unfold Mc.nY;rw[aT4 (by show ¬(m.phase==3||m.phase==4)=true;rw[z.ph];decide)];unfold Mc.nz;have hs:(m.clock 7).st=3:=z.st;rw[hs];rfl
 rw[e]at hm;refine⟨rfl,_,hZ _ ⟨(z.cf.clock 7 (by decide)).at b,z.st,z.gq,z.iB,z.mask,z.yz,z.FJ,z.gr,z.cd,z.ph,z.img⟩ ?_,hm⟩;show wrap64 (m.now+1)=2;rw[hn,BL _ (by decide)];rfl
def az1:ByteArray:=og.ni [255,255,255,255,255,255,2,0,0,0,0,42] 2054 (WM.vE 1 [2,0,0,0,0,42] 167772215 [0,0,0,0,0,0] 167772161)
def qw(wn:Nat):ByteArray:=⟨(Tf.U7 (Xc [107,101,114,110,101,108] 8 wn)).toArray⟩
def rdP(i:Int)(wn:Nat):ByteArray:=Ip.Db i 64 17 167772215 167772161 (Ud.sH 1038 69 167772215 167772161 (qw wn))
structure Bd (K:Nat->Nat) (s:List UInt8) (wn:Nat) (m:Mc):Prop where
 cf:Cf K s wn m
 st:m.st=4
 iB:m.iB=167772215
 mask:m.mask=4294967040
 yz:m.yz=167772161
 FJ:m.FJ=167772161
 port:m.port=1038
 now:m.now=3
 draw:m.draw=14
theorem Bd.addr(b:Bd K s wn m):m.addr=167772215:=by
 unfold Mc.addr;rw[b.st,b.iB];rfl
theorem ab9(hst:m.st=4)(ha:m.iB=167772215)(hm:m.mask=4294967040):m.hop 167772161=167772161:=by
 have e:m.addr=167772215:=by unfold Mc.addr;rw[hst,ha];rfl
 unfold Mc.hop;rw[e,hm];have hb:(bits BinOp.and .u32 167772161 4294967040==bits BinOp.and .u32 167772215 4294967040)=true:=by decide
 rw[hb];rfl
theorem Bd.hop(b:Bd K s wn m):m.hop m.FJ=167772161:=by rw[b.FJ];exact ab9 b.st b.iB b.mask
structure T0 (K:Nat->Nat) (s:List UInt8) (wn:Nat) (m:Mc):Prop where
 bd:Bd K s wn m
 gq:m.gq=[az1]
 ph:m.phase=1
 Wl:m.Wl=0
 TE:m.TE=1
 since:m.since=0
 img:m.ql=[]
 cd:∃i:Int,(0<=i/\i<=65535)/\m.cd=(DataW.map []).put (.int .u32 167772161) ((({bC with load:=rdP i wn}:Nb).more 3).d)
theorem am0(n:Nat)(h:1<=n/\n<=8):(Lib.itoa n).length<=32:=by
 obtain⟨h1,h2⟩:=h;have hc:n=1∨n=2∨n=3∨n=4∨n=5∨n=6∨n=7∨n=8:=by omega
 rcases hc with rfl|rfl|rfl|rfl|rfl|rfl|rfl|rfl<;>decide+kernel
theorem aO5(ho:m.Ok)(d:Int)(hd:0<=d/\d<=4294967295):∃x:Mc,x=m.Wi d/\x.Ok/\x.k0=m.k0/\x.k1=m.k1/\x.k2=m.k2/\x.k3=m.k3/\x.k4=m.k4/\x.k5=m.k5/\x.name=m.name/\x.cap=m.cap/\x.gQ=m.gQ/\x.blk=m.blk/\x.win=m.win/\x.rx=m.rx/\x.tx=m.tx/\x.cq=m.cq/\x.gq=m.gq/\x.iB=m.iB/\x.mask=m.mask/\x.yz=m.yz/\x.FJ=m.FJ/\x.ql=m.ql/\x.st=4/\x.port=m.port/\x.now=wrap64 (m.now+1)/\x.draw=d/\x.phase=m.phase/\x.Wl=m.Wl/\x.TE=m.TE/\x.since=m.since/\x.cd=m.cd:=
 ⟨_,rfl,⟨hd,ho.2,ho.3,ho.4,ho.5,ho.6,ho.7,ho.8,ho.9,ho.10,ho.11,ho.12,ho.13,ho.14,ho.15,ho.16⟩,rfl,rfl,rfl,rfl,rfl,rfl,rfl,rfl,rfl,rfl,rfl,rfl,rfl,rfl,rfl,rfl,rfl,rfl,rfl,rfl,rfl,rfl,rfl,rfl,rfl,rfl,rfl,rfl,rfl⟩
theorem aO8(ho:m.Ok)(pt:Int)(R:ByteArray)(hp:0<=pt/\pt<=65535)(hz:R.size<=262144):∃x:Mc,x=m.asking pt R/\x.Ok/\x.k0=m.k0/\x.k1=m.k1/\x.k2=m.k2/\x.k3=m.k3/\x.k4=m.k4/\x.k5=m.k5/\x.name=m.name/\x.cap=m.cap/\x.gQ=m.gQ/\x.blk=m.blk/\x.win=m.win/\x.rx=m.rx/\x.tx=m.tx/\x.cq=m.cq/\x.gq=m.gq/\x.iB=m.iB/\x.mask=m.mask/\x.yz=m.yz/\x.FJ=m.FJ/\x.ql=m.ql/\x.st=m.st/\x.port=pt/\x.now=m.now/\x.draw=m.draw/\x.phase=1/\x.Wl=0/\x.TE=1/\x.since=0/\x.cd=m.cd:=
 ⟨_,rfl,⟨ho.1,ho.2,ho.3,ho.4,ho.5,ho.6,ho.7,ho.8,ho.9,ho.10,ho.11,ho.12,⟨Int.le_refl _,by show(0:Int)<=4;decide⟩,hp,⟨by show(0:Int)<=69;decide,by show(69:Int)<=65535;decide⟩,hz⟩,rfl,rfl,rfl,rfl,rfl,rfl,rfl,rfl,rfl,rfl,rfl,rfl,rfl,rfl,rfl,rfl,rfl,rfl,rfl,rfl,rfl,rfl,rfl,rfl,rfl,rfl,rfl,rfl,rfl⟩
theorem aO4(ho:m.Ok)(hf:m.fs<=3):∃x:Mc,x=m.WS/\x.Ok/\x.k0=m.k0/\x.k1=m.k1/\x.k2=m.k2/\x.k3=m.k3/\x.k4=m.k4/\x.k5=m.k5/\x.name=m.name/\x.cap=m.cap/\x.gQ=m.gQ/\x.blk=m.blk/\x.win=m.win/\x.rx=m.rx/\x.tx=m.tx/\x.cq=m.cq/\x.gq=m.gq/\x.iB=m.iB/\x.mask=m.mask/\x.yz=m.yz/\x.FJ=m.FJ/\x.ql=m.ql/\x.st=m.st/\x.port=m.port/\x.now=m.now/\x.draw=m.draw/\x.phase=m.phase/\x.Wl=m.Wl/\x.TE=m.TE/\x.since=m.since/\x.cd=m.cd:=
 ⟨_,rfl,⟨ho.1,ho.2,ho.3,ho.4,ho.5,ho.6,ho.7,ho.8,ho.9,ho.10,ho.11,ho.12,⟨by show 0<=m.fs+1;have:=ho.fs;omega,by show m.fs+1<=4;omega⟩,ho.14,ho.15,ho.16⟩,rfl,rfl,rfl,rfl,rfl,rfl,rfl,rfl,rfl,rfl,rfl,rfl,rfl,rfl,rfl,rfl,rfl,rfl,rfl,rfl,rfl,rfl,rfl,rfl,rfl,rfl,rfl,rfl,rfl⟩
theorem aP3(ho:m.Ok):∃x:Mc,x=m.Ww/\x.Ok/\x.k0=m.k0/\x.k1=m.k1/\x.k2=m.k2/\x.k3=m.k3/\x.k4=m.k4/\x.k5=m.k5/\x.name=m.name/\x.cap=m.cap/\x.gQ=m.gQ/\x.blk=m.blk/\x.win=m.win/\x.rx=m.rx/\x.tx=m.tx/\x.cq=m.cq/\x.gq=m.gq/\x.iB=m.iB/\x.mask=m.mask/\x.yz=m.yz/\x.FJ=m.FJ/\x.ql=m.ql/\x.st=m.st/\x.port=m.port/\x.now=m.now/\x.draw=m.draw/\x.phase=m.phase/\x.Wl=m.Wl/\x.TE=m.TE/\x.since=m.since/\x.cd=m.cd:=
 ⟨_,rfl,ho.Ww,rfl,rfl,rfl,rfl,rfl,rfl,rfl,rfl,rfl,rfl,rfl,rfl,rfl,rfl,rfl,rfl,rfl,rfl,rfl,rfl,rfl,rfl,rfl,rfl,rfl,rfl,rfl,rfl,rfl⟩
theorem aL3(ho:m.Ok)(a:Int)(n:Nb):∃x:Mc,x=m.keep a n/\x.Ok/\x.k0=m.k0/\x.k1=m.k1/\x.k2=m.k2/\x.k3=m.k3/\x.k4=m.k4/\x.k5=m.k5/\x.name=m.name/\x.cap=m.cap/\x.gQ=m.gQ/\x.blk=m.blk/\x.win=m.win/\x.rx=m.rx/\x.tx=m.tx/\x.cq=m.cq/\x.gq=m.gq/\x.iB=m.iB/\x.mask=m.mask/\x.yz=m.yz/\x.FJ=m.FJ/\x.ql=m.ql/\x.st=m.st/\x.port=m.port/\x.now=m.now/\x.draw=m.draw/\x.phase=m.phase/\x.Wl=m.Wl/\x.TE=m.TE/\x.since=m.since/\x.cd=m.cd.put (.int .u32 a) n.d:=
 ⟨_,rfl,⟨ho.1,ho.2,ho.3,ho.4,ho.5,ho.6,ho.7,ho.8,ho.9,ho.10,ho.11,ho.12,ho.13,ho.14,ho.15,ho.16⟩,rfl,rfl,rfl,rfl,rfl,rfl,rfl,rfl,rfl,rfl,rfl,rfl,rfl,rfl,rfl,rfl,rfl,rfl,rfl,rfl,rfl,rfl,rfl,rfl,rfl,rfl,rfl,rfl,rfl⟩
theorem af4(ho:m.Ok)(d:Int)(hd:0<=d/\d<=4294967295)(a:Int)(n:Nb):∃m3:Mc,m3=(m.Xe d).WS.Ww.keep a n/\m3.Ok/\m3.k0=m.k0/\m3.k1=m.k1/\m3.k2=m.k2/\m3.k3=m.k3/\m3.k4=m.k4/\m3.k5=m.k5/\m3.name=m.name/\m3.cap=m.cap/\m3.gQ=m.gQ/\m3.blk=m.blk/\m3.win=m.win/\m3.rx=m.rx/\m3.tx=m.tx/\m3.cq=m.cq/\m3.gq=m.gq/\m3.iB=m.iB/\m3.mask=m.mask/\m3.yz=m.yz/\m3.FJ=m.FJ/\m3.ql=m.ql/\m3.st=4/\m3.port=1024+d%60000/\m3.now=wrap64 (m.now+1)/\m3.draw=d/\m3.phase=1/\m3.Wl=0/\m3.TE=1/\m3.since=0/\m3.cd=m.cd.put (.int .u32 a) n.d:=by
 have hp:0<=1024+d%60000/\1024+d%60000<=65535:=by omega
 have hz:=Zb ((m.Wi d).fresh (1024+d%60000));obtain⟨R,hR⟩:∃R:ByteArray,R=((m.Wi d).fresh (1024+d%60000)).XK:=⟨_,rfl⟩;obtain⟨pt,hpt⟩:∃pt:Int,pt=1024+d%60000:=⟨_,rfl⟩;have e2:m.Xe d=(m.Wi d).asking pt R:=by rw[hR,hpt];rfl
 rw[<-hR]at hz;rw[<-hpt]at hp;rw[e2,<-hpt];clear e2 hR hpt;obtain⟨x1,h1,o1,q1_k0,q1_k1,q1_k2,q1_k3,q1_k4,q1_k5,q1_name,q1_cap,q1_dig,q1_blk,q1_win,q1_rx,q1_tx,q1_cq,q1_gq,q1_adr,q1_mask,q1_rou,q1_ims,q1_imgL,q1_st,q1_port,q1_now,q1_draw,q1_phase,q1_frm,q1_nxt,q1_since,q1_cd⟩:=aO5 ho d hd;obtain⟨x2,h2,o2,q2_k0,q2_k1,q2_k2,q2_k3,q2_k4,q2_k5,q2_name,q2_cap,q2_dig,q2_blk,q2_win,q2_rx,q2_tx,q2_cq,q2_gq,q2_adr,q2_mask,q2_rou,q2_ims,q2_imgL,q2_st,q2_port,q2_now,q2_draw,q2_phase,q2_frm,q2_nxt,q2_since,q2_cd⟩:=aO8 o1 pt R hp (aT9 hz (by decide));have f2:x2.fs=0:=by rw[h2];rfl
 obtain⟨x3,h3,o3,q3_k0,q3_k1,q3_k2,q3_k3,q3_k4,q3_k5,q3_name,q3_cap,q3_dig,q3_blk,q3_win,q3_rx,q3_tx,q3_cq,q3_gq,q3_adr,q3_mask,q3_rou,q3_ims,q3_imgL,q3_st,q3_port,q3_now,q3_draw,q3_phase,q3_frm,q3_nxt,q3_since,q3_cd⟩:=aO4 o2 (by rw[f2];decide);obtain⟨x4,h4,o4,q4_k0,q4_k1,q4_k2,q4_k3,q4_k4,q4_k5,q4_name,q4_cap,q4_dig,q4_blk,q4_win,q4_rx,q4_tx,q4_cq,q4_gq,q4_adr,q4_mask,q4_rou,q4_ims,q4_imgL,q4_st,q4_port,q4_now,q4_draw,q4_phase,q4_frm,q4_nxt,q4_since,q4_cd⟩:=aP3 o3;obtain⟨x5,h5,o5,q5_k0,q5_k1,q5_k2,q5_k3,q5_k4,q5_k5,q5_name,q5_cap,q5_dig,q5_blk,q5_win,q5_rx,q5_tx,q5_cq,q5_gq,q5_adr,q5_mask,q5_rou,q5_ims,q5_imgL,q5_st,q5_port,q5_now,q5_draw,q5_phase,q5_frm,q5_nxt,q5_since,q5_cd⟩:=aL3 o4 a n;exact⟨x5,by rw[h5,h4,h3,h2,h1],o5,q5_k0.trans (q4_k0.trans (q3_k0.trans (q2_k0.trans q1_k0))),q5_k1.trans (q4_k1.trans (q3_k1.trans (q2_k1.trans q1_k1))),q5_k2.trans (q4_k2.trans (q3_k2.trans (q2_k2.trans q1_k2))),q5_k3.trans (q4_k3.trans (q3_k3.trans (q2_k3.trans q1_k3))),q5_k4.trans (q4_k4.trans (q3_k4.trans (q2_k4.trans q1_k4))),q5_k5.trans (q4_k5.trans (q3_k5.trans (q2_k5.trans q1_k5))),q5_name.trans (q4_name.trans (q3_name.trans (q2_name.trans q1_name))),q5_cap.trans (q4_cap.trans (q3_cap.trans (q2_cap.trans q1_cap))),q5_dig.trans (q4_dig.trans (q3_dig.trans (q2_dig.trans q1_dig))),q5_blk.trans (q4_blk.trans (q3_blk.trans (q2_blk.trans q1_blk))),q5_win.trans (q4_win.trans (q3_win.trans (q2_win.trans q1_win))),q5_rx.trans (q4_rx.trans (q3_rx.trans (q2_rx.trans q1_rx))),q5_tx.trans (q4_tx.trans (q3_tx.trans (q2_tx.trans q1_tx))),q5_cq.trans (q4_cq.trans (q3_cq.trans (q2_cq.trans q1_cq))),q5_gq.trans (q4_gq.trans (q3_gq.trans (q2_gq.trans q1_gq))),q5_adr.trans (q4_adr.trans (q3_adr.trans (q2_adr.trans q1_adr))),q5_mask.trans (q4_mask.trans (q3_mask.trans (q2_mask.trans q1_mask))),q5_rou.trans (q4_rou.trans (q3_rou.trans (q2_rou.trans q1_rou))),q5_ims.trans (q4_ims.trans (q3_ims.trans (q2_ims.trans q1_ims))),q5_imgL.trans (q4_imgL.trans (q3_imgL.trans (q2_imgL.trans q1_imgL))),q5_st.trans (q4_st.trans (q3_st.trans (q2_st.trans q1_st))),q5_port.trans (q4_port.trans (q3_port.trans q2_port)),q5_now.trans (q4_now.trans (q3_now.trans (q2_now.trans q1_now))),q5_draw.trans (q4_draw.trans (q3_draw.trans (q2_draw.trans q1_draw))),q5_phase.trans (q4_phase.trans (q3_phase.trans q2_phase)),q5_frm.trans (q4_frm.trans (q3_frm.trans q2_frm)),q5_nxt.trans (q4_nxt.trans (q3_nxt.trans q2_nxt)),q5_since.trans (q4_since.trans (q3_since.trans q2_since)),by rw[q5_cd,q4_cd,q3_cd,q2_cd,q1_cd]⟩
theorem aH4(z:S2 K s wn [] m)(hn:m.now=2)(hwn:1<=wn/\wn<=8)(Z:Mc->Prop)(hZ:∀mz,T0 K s wn mz->Z mz):ao6 (Tk K) m 14 Z:=fun w Q B hb hr=>by
 have c:=z.cf;have hb1:m.blk=8:=c.blk;refine ad5 hb 14 Z ((ak5 hb.mx hr.tq c.ok (by show(m.phase==3||m.phase==4)=false;rw[z.ph];rfl) z.cd z.st (by rw[z.gr,hn,BL _ (by decide),BL _ (by decide)];decide) 14 (by decide) (by rw[c.blk];decide) (by rw[c.win];omega) (by rw[c.name];decide) (by rw[c.blk];decide+kernel) ?_ ?_ ?_).mono ?_)
 ·rw[c.win]
  exact am0 wn hwn
 ·rw[z.FJ]
  exact ab9 rfl z.iB z.mask
 ·rw[hn,BL _ (by decide)]
  have ht:(m.clock 14).Ez 0=3:=rfl;rw[ht,BL _ (by decide)];decide
 rintro ee w' ⟨rfl,hm⟩;refine⟨rfl,_,hZ _ ?_,hm⟩;have eh:(m.Wi 14).hop m.FJ=167772161:=by rw[z.FJ];exact ab9 rfl z.iB z.mask
 have ec:(m.Wi 14).card=[2,0,0,0,0,42]:=c.card;have ea:(m.Wi 14).addr=167772215:=z.iB;have en:wrap64 (m.now+1)=3:=by rw[hn,BL _ (by decide)];rfl
 have eR:((m.Wi 14).fresh (1024+14%60000)).XK=qw wn:=by
  show(⟨(Tf.U7 (Xc m.name.data.toList m.blk m.win)).toArray⟩:ByteArray)=_;rw[c.name,c.blk,c.win];rfl
 obtain⟨m3,hm3,o3,f_k0,f_k1,f_k2,f_k3,f_k4,f_k5,f_name,f_cap,f_dig,f_blk,f_win,f_rx,f_tx,f_cq,f_gq,f_adr,f_mask,f_rou,f_ims,f_imgL,f_st,f_port,f_now,f_draw,f_ph,f_frm,f_nxt,f_since,f_cd⟩:=af4 c.ok 14 (by decide) 167772161 ((m.ao2 14).more 3);have e1:m.bounds 14=m3.sent az1:=by
  rw[Xq,eh,en,hm3];unfold Mc.ay6 az1;rw[ec,ea];rfl
 have c3:Cf K s wn m3:=⟨o3,f_k0.trans c.k0,f_k1.trans c.k1,f_k2.trans c.k2,f_k3.trans c.k3,f_k4.trans c.k4,f_k5.trans c.k5,f_name.trans c.name,f_cap.trans c.cap,by rw[f_dig];exact c.gQ,f_blk.trans c.blk,f_win.trans c.win,f_rx.trans c.rx,f_tx.trans c.tx,f_cq.trans c.cq⟩;have g3:m3.gq=[]:=f_gq.trans z.gq;have ep:m.ao2 14={bC with load:=rdP m.id wn}:=by
  unfold Mc.ao2 rdP;rw[ea,eR,z.FJ];rfl
 have b3:Bd K s wn (m3.sent az1):=by
  refine⟨c3.sent _,?_,?_,?_,?_,?_,?_,?_,?_⟩
  ·rw[ab1];exact f_st
  ·rw[ZG];exact f_adr.trans z.iB
  ·rw[Y7];exact f_mask.trans z.mask
  ·rw[ac7];exact f_rou.trans z.yz
  ·rw[ac9];exact f_ims.trans z.FJ
  ·rw[ad3,f_port];rfl
  ·rw[Yl];exact f_now.trans en
  rw[ae8];exact f_draw
 rw[e1];clear hm3 e1;refine⟨b3,?_,?_,?_,?_,?_,?_,⟨m.id,c.ok.id,?_⟩⟩
 ·rw[ah6 _ _ (by rw[g3,c3.tx];decide),g3];rfl
 ·rw[W_];exact f_ph
 ·rw[ak6];exact f_frm
 ·rw[ai8];exact f_nxt
 ·rw[ZC];exact f_since
 ·rw[Xt];exact f_imgL.trans z.img
 rw[aa9,f_cd,ep,z.cd]
def aB9:ByteArray:=og.ni [2,0,0,0,0,42,2,0,0,0,0,7] 2054 (WM.vE 2 [2,0,0,0,0,7] 167772161 [2,0,0,0,0,42] 167772215)
def Yp:Nb:=⟨0,2,0,0,0,0,7,63,⟨#[]⟩⟩
def rZ(i fp tp:Int)(L:ByteArray):ByteArray:=og.ni [2,0,0,0,0,7,2,0,0,0,0,42] 2048 (Ip.Db i 64 17 167772215 167772161 (Ud.sH fp tp 167772215 167772161 L))
structure T1 (K:Nat->Nat) (s:List UInt8) (wn:Nat) (m:Mc):Prop where
 bd:Bd K s wn m
 gq:∃i:Int,(0<=i/\i<=65535)/\m.gq=[rZ i 1038 69 (qw wn)]
 ph:m.phase=1
 Wl:m.Wl=0
 TE:m.TE=1
 since:m.since=0
 img:m.ql=[]
 cd:m.cd=.map [(.int .u32 167772161,Yp.d)]
theorem Bd.taken(b:Bd K s wn m):Bd K s wn m.taken:=⟨b.cf.taken,b.st,b.iB,b.mask,b.yz,b.FJ,b.port,b.now,b.draw⟩
theorem aG4(b:Bd K s wn m)(f:ByteArray):∃m2,m2=nx m.taken f/\Bd K s wn m2/\m2.gq=[]/\m2.cd=m.cd/\m2.phase=m.phase/\m2.Wl=m.Wl/\m2.TE=m.TE/\m2.since=m.since/\m2.ql=m.ql/\m2.Be=m.Be/\m2.Od=m.Od:=by
 have e:nx m.taken f={m.taken with cf:=(m.taken.cf+1)%m.taken.rx}:=Y9 b.cf.taken.cq (by rw[b.cf.taken.rx];decide);refine⟨_,rfl,⟨b.cf.taken.next f,?_,?_,?_,?_,?_,?_,?_,?_⟩,?_,?_,?_,?_,?_,?_,?_,?_,?_⟩
 ·rw[e];exact b.st
 ·rw[e];exact b.iB
 ·rw[e];exact b.mask
 ·rw[e];exact b.yz
 ·rw[e];exact b.FJ
 ·rw[e];exact b.port
 ·rw[e];exact b.now
 ·rw[e];exact b.draw
 ·rw[e];exact Xi m
 all_goals rw[e];rfl
theorem aj2:aB9.size<=2000:=by
 unfold aB9;exact aT9 (Xj 2 0 0 0 0 42 2 0 0 0 0 7 2054 _ (by decide) (Yz _ _ _ _ _ _ _ _ _ _ _ _ _ _ _)).2 (by decide)
theorem av9(i:Int)(wn:Nat):(rdP i wn).size<=1500:=(Ye i 167772215 167772161 1038 69 (qw wn)).1
theorem aB2(i:Int)(wn:Nat):(rdP i wn).toList.isEmpty=false:=by
 unfold rdP;rw[Zg _ _ _ _ _ _ (by decide) (Ye i 167772215 167772161 1038 69 (qw wn)).2,aV2];show(Ip.Ls _ _ _ _ _ _).isEmpty=false;have hl:(Ip.Ls i 64 17 167772215 167772161 (Ud.sH 1038 69 167772215 167772161 (qw wn))).length≠0:=by
  rw[Ip.Ls,aS9,Ip.jY];omega
 cases hc:Ip.Ls i 64 17 167772215 167772161 (Ud.sH 1038 69 167772215 167772161 (qw wn))with
 |nil=>rw[hc]at hl;exact absurd rfl hl
 |cons _ _=>rfl
theorem aA8(d:DataW Unit)(x:Nb)(hd:d=x.d):Room (.map [(.int .u32 167772161,d)]) 167772161:=
 ⟨by decide,⟨x,by rw[hd];rfl⟩,aT2 rfl,fun d=>(show 1<=4 by decide)⟩
theorem ai2(b:Bd K s wn m)(g:m.gq=[])(f:ByteArray)(x:Nb):Bd K s wn ((m.keep 167772161 x).sent f)/\((m.keep 167772161 x).sent f).gq=[f]/\((m.keep 167772161 x).sent f).phase=m.phase/\((m.keep 167772161 x).sent f).Wl=m.Wl/\((m.keep 167772161 x).sent f).TE=m.TE/\((m.keep 167772161 x).sent f).since=m.since/\((m.keep 167772161 x).sent f).ql=m.ql/\((m.keep 167772161 x).sent f).cd=m.cd.put (.int .u32 167772161) x.d:=by
 obtain⟨m3,h3,o3,q⟩:=aL3 b.cf.ok 167772161 x;rw[<-h3];obtain⟨q_k0,q_k1,q_k2,q_k3,q_k4,q_k5,q_name,q_cap,q_dig,q_blk,q_win,q_rx,q_tx,q_cq,q_gq,q_adr,q_mask,q_rou,q_ims,q_imgL,q_st,q_port,q_now,q_draw,q_ph,q_frm,q_nxt,q_since,q_cd⟩:=q;have c:=b.cf;have c3:Cf K s wn m3:=⟨o3,q_k0.trans c.k0,q_k1.trans c.k1,q_k2.trans c.k2,q_k3.trans c.k3,q_k4.trans c.k4,q_k5.trans c.k5,q_name.trans c.name,q_cap.trans c.cap,by rw[q_dig];exact c.gQ,q_blk.trans c.blk,q_win.trans c.win,q_rx.trans c.rx,q_tx.trans c.tx,q_cq.trans c.cq⟩;have g3:m3.gq=[]:=q_gq.trans g;refine⟨⟨c3.sent _,?_,?_,?_,?_,?_,?_,?_,?_⟩,?_,?_,?_,?_,?_,?_,?_⟩
 ·rw[ab1];exact q_st.trans b.st
 ·rw[ZG];exact q_adr.trans b.iB
 ·rw[Y7];exact q_mask.trans b.mask
 ·rw[ac7];exact q_rou.trans b.yz
 ·rw[ac9];exact q_ims.trans b.FJ
 ·rw[ad3];exact q_port.trans b.port
 ·rw[Yl];exact q_now.trans b.now
 ·rw[ae8];exact q_draw.trans b.draw
 ·rw[ah6 _ _ (by rw[g3,c3.tx];decide),g3];rfl
 ·rw[W_];exact q_ph
 ·rw[ak6];exact q_frm
 ·rw[ai8];exact q_nxt
 ·rw[ZC];exact q_since
 ·rw[Xt];exact q_imgL
 rw[aa9];exact q_cd
theorem au9:XJ (Tk K) NA (fun m h=>T0 K s wn m/\H0 img h) (fun m h=>T1 K s wn m/\H0 img h):=by
 rintro m h ⟨z,hh⟩;obtain⟨i,hi,ecd⟩:=z.cd;obtain⟨F,hF⟩:=ex_ aB9;have HZ:=aj2;rw[<-hF]at HZ;refine⟨az1,[F],h,fun k m1=>(k=0/\m1=m.taken)∨(k=1/\T1 K s wn m1),z.gq,?_,by simp,?_,aT2 ⟨rfl,rfl⟩,?_,?_⟩
 ·intro w H ka cd hng
  refine(aD4 ka cd).mono ?_;rintro ee w' ⟨g,rfl,o,k2,t2⟩;rw[hF];exact⟨some (a_ g 0),1,rfl,o,k2,t2⟩
 ·intro x hx
  rw[bi4]at hx;rw[hx];exact HZ
 ·intro k hk m1 hm1
  have hk0:k=0:=by simp at hk;omega
  subst hk0;have hm0:m1=m.taken:=by
   rcases hm1 with⟨_,e⟩|⟨e,_⟩
   ·exact e
   cases e
  subst hm0;have ct:=z.bd.cf.taken;refine⟨by rw[ct.cq,ct.rx];decide,?_⟩;show XI (Tk K) (m.taken.put F) _;obtain⟨m2,hm2,b2,g2,d2,p2,r2,n2,s2,i2,_,_⟩:=aG4 z.bd F;refine XO (Zq ct.cq (by rw[ct.rx];decide)) (by rw[Xo];show(m.phase==3||m.phase==4)=false;rw[z.ph];rfl) _ ?_ (fun w0 P u B hr hu=> ?_)
  ·rintro mz (⟨e,_⟩|⟨_,y⟩)
   ·cases e
   exact y.bd.cf.cq
  change Mx w0 P u B (nx m.taken F)at hu;rw[<-hm2]at hu;obtain⟨x,hx⟩:∃x:Nb,x=(({bC with load:=rdP i wn}:Nb).more 3):=⟨_,rfl⟩;have hxl:x.load=rdP i wn:=by rw[hx];rfl
  have ecd2:m2.cd=.map [(.int .u32 167772161,x.d)]:=by rw[d2,ecd,hx];rfl
  have ha2:=b2.addr;have q:=aj5 hu hr Tk.base (by rw[b2.st];decide) 2 0 0 0 0 7 167772161 (by decide) (by rw[ha2];decide) (by decide) (by rw[ha2];decide) (by rw[ecd2];exact aA8 _ x rfl) x (by rw[ecd2];rfl) (by rw[ecd2];rfl) (by rw[hxl];exact aB2 i wn) (by rw[hxl];exact aT9 (av9 i wn) (by decide));have c2:=b2.cf;rw[c2.k0,c2.k1,c2.k2,c2.k3,c2.k4,c2.k5,ha2]at q;rw[hF];refine on_ q ?_;rintro w' ⟨mz,hmz,hm⟩;refine⟨rfl,mz,aT7 ⟨rfl,?_⟩,hm⟩;have en:wrap64 (m2.now+60)=63:=by rw[b2.now,BL _ (by decide)];rfl
  have e1:mz=(m2.keep 167772161 Yp).sent (rZ i 1038 69 (qw wn)):=by
   rw[hmz];unfold Mc.learns Mc.knows Mc.send;rw[en,hxl,show(m2.keep 167772161 ⟨0,2,0,0,0,0,7,63,⟨#[]⟩⟩).card=m2.card from rfl,c2.card];rfl
  obtain⟨a1,a2,a3,a4,a5,a6,a7,a8⟩:=ai2 b2 g2 (rZ i 1038 69 (qw wn)) Yp;rw[e1];refine⟨a1,⟨i,hi,a2⟩,a3.trans (p2.trans z.ph),a4.trans (r2.trans z.Wl),a5.trans (n2.trans z.TE),a6.trans (s2.trans z.since),a7.trans (i2.trans z.img),?_⟩;rw[a8,ecd2];rfl
 rintro m1 (⟨e,_⟩|⟨_,y⟩)
 ·cases e
 exact⟨y,hh⟩
theorem aP8(ho:m.Ok)(hp:0<=m.port/\m.port<=65535)(hf:0<=m.Wl/\m.Wl<=65535):∃x:Mc,x=m.Wv.WS.Ww/\x.Ok/\x.since=0/\x.k0=m.k0/\x.k1=m.k1/\x.k2=m.k2/\x.k3=m.k3/\x.k4=m.k4/\x.k5=m.k5/\x.name=m.name/\x.cap=m.cap/\x.gQ=m.gQ/\x.blk=m.blk/\x.win=m.win/\x.rx=m.rx/\x.tx=m.tx/\x.cq=m.cq/\x.gq=m.gq/\x.st=m.st/\x.iB=m.iB/\x.mask=m.mask/\x.yz=m.yz/\x.FJ=m.FJ/\x.port=m.port/\x.now=m.now/\x.draw=m.draw/\x.phase=m.phase/\x.Wl=m.Wl/\x.Be=m.Be/\x.Od=m.Od/\x.TE=m.TE/\x.ql=m.ql/\x.cd=m.cd:=by
 have hz:=YI m;have o1:m.Wv.WS.Ok:=⟨ho.1,ho.2,ho.3,ho.4,ho.5,ho.6,ho.7,ho.8,ho.9,ho.10,ho.11,ho.12,⟨by show(0:Int)<=0+1;decide,by show(0:Int)+1<=4;decide⟩,hp,hf,by show m.Xx.size<=262144;omega⟩;exact⟨_,rfl,o1.Ww,rfl,rfl,rfl,rfl,rfl,rfl,rfl,rfl,rfl,rfl,rfl,rfl,rfl,rfl,rfl,rfl,rfl,rfl,rfl,rfl,rfl,rfl,rfl,rfl,rfl,rfl,rfl,rfl,rfl,rfl,rfl⟩
def XM(n:Nat):ByteArray:=⟨(Tf.U7 ⟨4,n%65536,[],[],[]⟩).toArray⟩
structure Ld (K:Nat->Nat) (s:List UInt8) (wn n k:Nat) (m:Mc):Prop where
 bd:Bd K s wn m
 ph:m.phase=2
 Wl:m.Wl=1
 Be:m.Be=8
 Od:m.Od=wn
 since:m.since=k
 TE:m.TE=(((n+1)%65536:Nat):Int)
 img:m.ql=s.take (8*n)
 cd:m.cd=.map [(.int .u32 167772161,Yp.d)]
theorem Ld.hop{n k:Nat}(l:Ld K s wn n k m):Hop m Yp:=by
 have e:=l.bd.hop;refine⟨by rw[e];decide,?_,?_,rfl⟩
 ·rw[e,l.cd];rfl
 rw[e,l.cd];rfl
theorem XL{n k:Nat}(l:Ld K s wn n k m)(g:m.gq=[]):Ld K s wn n 0 (m.answered Yp)/\∃i:Int,(0<=i/\i<=65535)/\(m.answered Yp).gq=[rZ i 1038 1 (XM n)]:=by
 obtain⟨x,hx,ox,q_since,q_k0,q_k1,q_k2,q_k3,q_k4,q_k5,q_name,q_cap,q_dig,q_blk,q_win,q_rx,q_tx,q_cq,q_gq,q_st,q_adr,q_mask,q_rou,q_ims,q_port,q_now,q_draw,q_phase,q_frm,q_fblk,q_fwin,q_nxt,q_imgL,q_cd⟩:=aP8 l.bd.cf.ok (by rw[l.bd.port];decide) (by rw[l.Wl];decide);have c:=l.bd.cf;have b:=l.bd;have cx:Cf K s wn x:=⟨ox,q_k0.trans c.k0,q_k1.trans c.k1,q_k2.trans c.k2,q_k3.trans c.k3,q_k4.trans c.k4,q_k5.trans c.k5,q_name.trans c.name,q_cap.trans c.cap,by rw[q_dig];exact c.gQ,q_blk.trans c.blk,q_win.trans c.win,q_rx.trans c.rx,q_tx.trans c.tx,q_cq.trans c.cq⟩;have gx:x.gq=[]:=q_gq.trans g;have hN:m.Y_.toNat=n%65536:=by
  unfold Mc.Y_;rw[l.TE];show(((((n+1)%65536:Nat):Int)-1)%65536).toNat=n%65536;omega
 have eF:m.aJ1 Yp=rZ m.id 1038 1 (XM n):=by
  unfold Mc.aJ1 rZ Mc.Xx XM;rw[hN,b.addr,b.FJ,b.port,l.Wl,c.card];rfl
 have e1:m.answered Yp=x.sent (rZ m.id 1038 1 (XM n)):=by rw[XX,eF,hx]
 rw[e1];refine⟨⟨⟨cx.sent _,?_,?_,?_,?_,?_,?_,?_,?_⟩,?_,?_,?_,?_,?_,?_,?_,?_⟩,⟨m.id,c.ok.id,?_⟩⟩
 ·rw[ab1];exact q_st.trans b.st
 ·rw[ZG];exact q_adr.trans b.iB
 ·rw[Y7];exact q_mask.trans b.mask
 ·rw[ac7];exact q_rou.trans b.yz
 ·rw[ac9];exact q_ims.trans b.FJ
 ·rw[ad3];exact q_port.trans b.port
 ·rw[Yl];exact q_now.trans b.now
 ·rw[ae8];exact q_draw.trans b.draw
 ·rw[W_];exact q_phase.trans l.ph
 ·rw[ak6];exact q_frm.trans l.Wl
 ·rw[aF8];exact q_fblk.trans l.Be
 ·rw[aE8];exact q_fwin.trans l.Od
 ·rw[ZC];exact q_since
 ·rw[ai8];exact q_nxt.trans l.TE
 ·rw[Xt];exact q_imgL.trans l.img
 ·rw[aa9];exact q_cd.trans l.cd
 rw[ah6 _ _ (by rw[gx,cx.tx];decide),gx];rfl
structure aB1 (wn n:Nat):Prop where
 w:1<=wn/\wn<=8
 z:n<=600000
 rk:Tf.UU (Xc [107,101,114,110,101,108] 8 wn)=0
 nb:Yj 0 (Xc [107,101,114,110,101,108] 8 wn).fs Gp=((8:Nat):Int)
 nw:Yj 0 (Xc [107,101,114,110,101,108] 8 wn).fs I1=wn
 fz:∀x ∈ (Xc [107,101,114,110,101,108] 8 wn).fs,x.2.length<=1000
 i1:Xa ⟨(dg n).toArray⟩ n
 i2:Xa ⟨(dg 8).toArray⟩ 8
 i3:Xa ⟨(dg wn).toArray⟩ wn
 ok:Tf.UU ⟨6,0,[],[],[(VC,dg n),(Gp,dg 8),(I1,dg wn)]⟩=0
def aa5(h:Host)(wn n:Nat):ByteArray:=(h.Wn ((8:Nat):Int) wn).frame h.asked.port 1038 ⟨(Tf.U7 ⟨6,0,[],[],[(VC,dg n),(Gp,dg 8),(I1,dg wn)]⟩).toArray⟩ h.next 167772215
theorem ac4(c:Hc img h)(hN:aB1 wn img.size)(i:Int)(hi:0<=i/\i<=65535):YC NA h (rZ i 1038 69 (qw wn)) [aa5 h wn img.size] (h.Wn ((8:Nat):Int) wn).Ww:=by
 intro w H ka cd hng;have hH0:(0:Nat)≠H:=fun e=>absurd (e▸hng) (by decide);have hH1:(1:Nat)≠H:=fun e=>absurd (e▸hng) (by decide);have hz:(qw wn).size<=1472:=by
  unfold qw;rw[strSize];unfold Tf.U7;rw[aU0 hN.rk];have:=hN.rk;unfold Tf.UU at this
  split at this
  ·cases this
  split at this
  ·cases this
  split at this
  ·cases this
  omega
 have hlt:=gG ka;have q:=ag3 ka cd 2 0 0 0 0 7 i 1038 69 (qw wn) hi (by rw[c.next];decide) (by decide) (by decide) (by decide) hz (Xc [107,101,114,110,101,108] 8 wn) rfl hN.rk ⟨fun _=>⟨rfl,rfl⟩,fun e=>absurd e (by show ¬(1=6);decide),fun e=>absurd e (by show ¬(1=3);decide),fun e=>absurd e (by show ¬(1=4);decide),fun e=>absurd e (by show ¬(1=5);decide)⟩ (by show 0<65536;decide) (fun ee w'=>∃ao cp,ee=.returned (.tuple #[.slice ao 1 cp,.bool true])/\w'.ownsRow w.heap.size 9 1 (.slice ao 1 cp) 1 (Js.strs [aa5 h wn img.size])/\At w' H (h.Wn ((8:Nat):Int) wn).Ww/\PU w w' H) (fun u sa sc ku cu hb hA had=> ?_)
 ·rw[c.next]at q
  exact q
 refine(au4 ku cu hH0 hH1 1038 (qw wn) (by decide) (by rw[c.next];decide) c.opts (by rw[c.image];have:=hN.z;omega) (Xc [107,101,114,110,101,108] 8 wn).fs sa sc (by show 3<=1000;decide) hN.fz hA (fun ad e=>by have:=had ad e;omega) 8 wn hN.nb hN.nw (by decide) hN.w).mono ?_;rintro ee w' ⟨g,rfl,o,k2,t2⟩;refine⟨_,_,rfl,some (a_ g 0),1,rfl,?_,k2,⟨t2.os.trans hb.os,t2.tape.trans hb.tape,t2.output.trans hb.output,aT9 hb.size t2.size,fun j hj hn=>(t2.block j (aU1 hj hb.size) hn).trans (hb.block j hj)⟩⟩;have o2:=Yb o hb.size;rw[c.image]at o2;exact o2
structure Hd (img:ByteArray) (wn snt:Nat) (la:Int) (h:Host):Prop where
 hc:Hc img h
 port:h.port=1
 block:h.block=8
 window:h.window=wn
 sent:h.sent=snt
 last:h.last=la
structure Wd (K:Nat->Nat) (s:List UInt8) (img:ByteArray) (wn j:Nat) (m:Mc) (h:Host):Prop where
 ld:Ld K s wn (j*wn) 0 m
 gq:∃i:Int,(0<=i/\i<=65535)/\m.gq=[rZ i 1038 1 (XM (j*wn))]
 hd:(j=0/\Hd img wn 0 (-1) h)∨(1<=j/\Hd img wn ((j-1)*wn) ((((j-1)*wn)%65536:Nat):Int) h)
theorem aP1(ho:m.Ok):∃x:Mc,x=(m.agreed 8 wn).Xn 1/\x.Ok/\x.k0=m.k0/\x.k1=m.k1/\x.k2=m.k2/\x.k3=m.k3/\x.k4=m.k4/\x.k5=m.k5/\x.name=m.name/\x.cap=m.cap/\x.gQ=m.gQ/\x.blk=m.blk/\x.win=m.win/\x.rx=m.rx/\x.tx=m.tx/\x.cq=m.cq/\x.gq=m.gq/\x.st=m.st/\x.iB=m.iB/\x.mask=m.mask/\x.yz=m.yz/\x.FJ=m.FJ/\x.port=m.port/\x.now=m.now/\x.draw=m.draw/\x.phase=2/\x.Wl=1/\x.Be=8/\x.Od=wn/\x.since=m.since/\x.TE=m.TE/\x.ql=m.ql/\x.cd=m.cd:=
 ⟨_,rfl,⟨ho.1,ho.2,ho.3,ho.4,ho.5,ho.6,ho.7,ho.8,ho.9,ho.10,ho.11,ho.12,ho.13,ho.14,ho.15,ho.16⟩,rfl,rfl,rfl,rfl,rfl,rfl,rfl,rfl,rfl,rfl,rfl,rfl,rfl,rfl,rfl,rfl,rfl,rfl,rfl,rfl,rfl,rfl,rfl,rfl,rfl,rfl,rfl,rfl,rfl,rfl,rfl⟩
theorem ak3(hN:aB1 wn img.size):XJ (Tk K) NA (fun m h=>T1 K s wn m/\H0 img h) (fun m h=>Wd K s img wn 0 m h):=by
 rintro m h ⟨z,hc,hpt⟩;obtain⟨i,hi,eg⟩:=z.gq;obtain⟨F,hF⟩:=ex_ (aa5 h wn img.size);have HA:=ac4 hc hN i hi;have HZ:(aa5 h wn img.size).size<=2000:=by unfold aa5;exact Yk _ _ _ _ _ _
 rw[<-hF]at HA HZ;have hap:h.asked.port=1:=by
  show IntKind.u16.wrap (h.port+1)=1;rw[hpt];rfl
 have hHd:Hd img wn 0 (-1) (h.Wn ((8:Nat):Int) wn).Ww:=⟨⟨hc.image,hc.gK,hc.next,hc.opts,QQ _⟩,hap,rfl,rfl,rfl,rfl⟩;refine⟨_,[F],_,fun k m1=>(k=0/\m1=m.taken)∨(k=1/\Ld K s wn 0 0 m1/\∃i:Int,(0<=i/\i<=65535)/\m1.gq=[rZ i 1038 1 (XM 0)]),eg,HA,by simp,?_,aT2 ⟨rfl,rfl⟩,?_,?_⟩
 ·intro x hx
  rw[bi4]at hx;rw[hx];exact HZ
 ·intro k hk m1 hm1
  have hk0:k=0:=by simp at hk;omega
  subst hk0;have hm0:m1=m.taken:=by
   rcases hm1 with⟨_,e⟩|⟨e,_⟩
   ·exact e
   cases e
  subst hm0;have ct:=z.bd.cf.taken;refine⟨by rw[ct.cq,ct.rx];decide,?_⟩;show XI (Tk K) (m.taken.put F) _;obtain⟨m2,hm2,b2,g2,d2,p2,r2,n2,s2,i2,_,_⟩:=aG4 z.bd F;refine XO (Zq ct.cq (by rw[ct.rx];decide)) (by rw[Xo];show(m.phase==3||m.phase==4)=false;rw[z.ph];rfl) _ ?_ (fun w0 P u B hr hu=> ?_)
  ·rintro mz (⟨e,_⟩|⟨_,y,_⟩)
   ·cases e
   exact y.bd.cf.cq
  change Mx w0 P u B (nx m.taken F)at hu;rw[<-hm2]at hu;have c2:=b2.cf;have hph:m2.phase=1:=p2.trans z.ph;have hcd:m2.cd=.map [(.int .u32 167772161,Yp.d)]:=d2.trans z.cd;have hop:Hop m2 Yp:=by
   have e:=b2.hop;refine⟨by rw[e];decide,?_,?_,rfl⟩
   ·rw[e,hcd];rfl
   rw[e,hcd];rfl
  have hpb:0<=m2.port/\m2.port<=65535:=by rw[b2.port];decide
  have LK:=ZQ (K:=K) (B:=B) c2.ok hph (dg img.size) (dg 8) (dg wn) img.size 8 wn hN.i1 hN.i2 hN.i3 (by rw[c2.cap];have:=hN.z;omega) (by rw[c2.blk];decide) (by rw[c2.win];have:=hN.w;omega) Yp hop 1 hpb (by decide);have hLz:(⟨(Tf.U7 ⟨6,0,[],[],[(VC,dg img.size),(Gp,dg 8),(I1,dg wn)]⟩).toArray⟩:ByteArray).size<=1472:=by
   rw[strSize];unfold Tf.U7;rw[aU0 hN.ok];have:=hN.ok;unfold Tf.UU at this
   split at this
   ·cases this
   split at this
   ·cases this
   split at this
   ·cases this
   omega
  have q:=Zi hu hr Tk.base c2.ok (by unfold Mc.lK;rw[hph];rfl) 2 0 0 0 0 7 (h.Wn ((8:Nat):Int) wn).Ww.id 1 _ (QQ _) (by decide) hpb (by rw[b2.port];decide) hLz (aT2 (by rw[hph];rfl)) ⟨6,0,[],[],[(VC,dg img.size),(Gp,dg 8),(I1,dg wn)]⟩ rfl hN.ok ⟨fun e=>absurd e (by show ¬(6=1);decide),fun _=>⟨rfl,rfl,rfl⟩,fun e=>absurd e (by show ¬(6=3);decide),fun e=>absurd e (by show ¬(6=4);decide),fun e=>absurd e (by show ¬(6=5);decide)⟩ (by show 0<65536;decide) _ LK;rw[c2.k0,c2.k1,c2.k2,c2.k3,c2.k4,c2.k5,b2.addr,b2.FJ,b2.port]at q;have ef:F=og.ni [2,0,0,0,0,42,2,0,0,0,0,7] 2048 (Ip.Db (h.Wn ((8:Nat):Int) wn).Ww.id 9 17 167772161 167772215 (Ud.sH 1 1038 167772161 167772215 ⟨(Tf.U7 ⟨6,0,[],[],[(VC,dg img.size),(Gp,dg 8),(I1,dg wn)]⟩).toArray⟩)):=by
   rw[hF];unfold aa5 Host.frame;rw[hap,hc.next]
  rw[ef];refine on_ q ?_;rintro w' ⟨mz,hmz,hm⟩;refine⟨rfl,mz,aT7 ⟨rfl,?_⟩,hm⟩;obtain⟨x,hx,ox,q_k0,q_k1,q_k2,q_k3,q_k4,q_k5,q_name,q_cap,q_dig,q_blk,q_win,q_rx,q_tx,q_cq,q_gq,q_st,q_adr,q_mask,q_rou,q_ims,q_port,q_now,q_draw,q_ph,q_frm,q_fblk,q_fwin,q_since,q_nxt,q_imgL,q_cd⟩:=aP1 (wn:=wn) c2.ok;rw[<-hx]at hmz;rw[hmz];refine XL (k:=0) ⟨⟨⟨ox,q_k0.trans c2.k0,q_k1.trans c2.k1,q_k2.trans c2.k2,q_k3.trans c2.k3,q_k4.trans c2.k4,q_k5.trans c2.k5,q_name.trans c2.name,q_cap.trans c2.cap,by rw[q_dig];exact c2.gQ,q_blk.trans c2.blk,q_win.trans c2.win,q_rx.trans c2.rx,q_tx.trans c2.tx,q_cq.trans c2.cq⟩,q_st.trans b2.st,q_adr.trans b2.iB,q_mask.trans b2.mask,q_rou.trans b2.yz,q_ims.trans b2.FJ,q_port.trans b2.port,q_now.trans b2.now,q_draw.trans b2.draw⟩,q_ph,q_frm,q_fblk,q_fwin,?_,?_,?_,q_cd.trans hcd⟩ (q_gq.trans g2)
  ·rw[q_since,s2,z.since];rfl
  ·rw[q_nxt,n2,z.TE];rfl
  rw[q_imgL,i2,z.img];rfl
 rintro m1 (⟨e,_⟩|⟨_,y,y2⟩)
 ·cases e
 exact⟨by rw[Nat.zero_mul];exact y,by rw[Nat.zero_mul];exact y2,aT2 ⟨rfl,hHd⟩⟩
theorem Ld.taken{n k:Nat}(l:Ld K s wn n k m):Ld K s wn n k m.taken:=⟨l.bd.taken,l.ph,l.Wl,l.Be,l.Od,l.since,l.TE,l.img,l.cd⟩
theorem aN0{n k:Nat}(l:Ld K s wn n k m)(f:ByteArray):Ld K s wn n k (nx m f)/\(nx m f).gq=m.gq/\(nx m f).gQ=m.gQ:=by
 have b:=l.bd;have e:nx m f={m with cf:=(m.cf+1)%m.rx}:=Y9 b.cf.cq (by rw[b.cf.rx];decide);have cf:=b.cf.next f;rw[e]at cf ⊢;exact⟨⟨⟨cf,b.st,b.iB,b.mask,b.yz,b.FJ,b.port,b.now,b.draw⟩,l.ph,l.Wl,l.Be,l.Od,l.since,l.TE,l.img,l.cd⟩,rfl,rfl⟩
theorem aC9(n:Nat):Tf.UU ⟨4,n%65536,[],[],[]⟩=0/\(XM n).size<=1472:=by
 have e:Tf.UU ⟨4,n%65536,[],[],[]⟩=0:=by simp[Tf.UU,Tf.RS,Tf.Mq,Tf.TU]
 refine⟨e,?_⟩;unfold XM;rw[strSize];unfold Tf.U7;rw[aU0 e];simp[Tf.Mq,Tf.TU]
theorem ax8(bl:Nat)(D:List UInt8)(h:D.length<=8):Tf.UU (WN bl D)=0/\(YD bl D).size<=1472:=by
 have e:Tf.UU (WN bl D)=0:=by
  have h2: ¬1024<D.length:=by omega
  have h3:(Tf.Mq (WN bl D)).length<=1472:=by simp[Tf.Mq,WN,Tf.TU];omega
  unfold Tf.UU;rw[aT4 (by simp[Tf.RS,WN]),aT4 (by rintro ⟨_,q⟩;exact h2 q),aT4 (by omega)]
 refine⟨e,?_⟩;unfold YD;rw[strSize];unfold Tf.U7;rw[aU0 e];simp[Tf.Mq,WN,Tf.TU];omega
theorem YU(i:Int)(hi:0<=i/\i<=65535)(sn j N:Nat)(la:Int)(d:Hd img wn sn la h)(hw:1<=wn/\wn<=8)(hz:img.size<=600000)(hsz:sn+j<=100000)(hj:j<=wn)(hla:la≠(((sn+j)%65536:Nat):Int))(hji:∀i,i<j->(((sn+i)%65536:Nat):Int)≠(((sn+j)%65536:Nat):Int))(hN:N<=wn)(hN1:∀i,i<N->(sn+j+i)*8<=img.size)(hN2:N=wn∨img.size<(sn+j+N)*8):
  YC NA h (rZ i 1038 1 (XM (sn+j))) ((h.Wv (((sn+j)%65536:Nat):Int) (sn+j:Nat)).WE 1038 (sn+j) N) ((h.Wv (((sn+j)%65536:Nat):Int) (sn+j:Nat)).YP N):=by
 intro w H ka cd hng;have hH0:(0:Nat)≠H:=fun e=>absurd (e▸hng) (by decide);have hH1:(1:Nat)≠H:=fun e=>absurd (e▸hng) (by decide);obtain⟨ek,ez⟩:=aC9 (sn+j);have hl:((h.Wv (((sn+j)%65536:Nat):Int) (sn+j:Nat)).WE 1038 (sn+j) N).length=N:=by unfold Host.WE;simp
 rw[hl];have q:=ag3 ka cd 2 0 0 0 0 7 i 1038 h.port (XM (sn+j)) hi (by rw[d.hc.next];decide) (by decide) (by rw[d.port];decide) (by rw[d.port];decide) ez ⟨4,(sn+j)%65536,[],[],[]⟩ rfl ek ⟨fun e=>absurd e (by show ¬(4=1);decide),fun e=>absurd e (by show ¬(4=6);decide),fun e=>absurd e (by show ¬(4=3);decide),fun _=>⟨rfl,rfl,rfl⟩,fun e=>absurd e (by show ¬(4=5);decide)⟩ (by show(sn+j)%65536<65536;omega) (fun ee w'=>∃ao cp,ee=.returned (.tuple #[.slice ao N cp,.bool true])/\w'.ownsRow w.heap.size 9 1 (.slice ao N cp) N (Js.strs ((h.Wv (((sn+j)%65536:Nat):Int) (sn+j:Nat)).WE 1038 (sn+j) N))/\At w' H ((h.Wv (((sn+j)%65536:Nat):Int) (sn+j:Nat)).YP N)/\PU w w' H) (fun u sa sc ku cu hb hA had=> ?_)
 ·rw[d.hc.next,d.port]at q
  exact q
 refine(aA7 ku cu hH0 hH1 1038 (XM (sn+j)) (by decide) (by rw[d.port];decide) (by rw[d.hc.next];decide) d.block sn wn N j d.sent (by omega) d.window hw.2 (by rw[d.hc.image];omega) _ _ _ _ (by rw[d.last];exact hla) hj rfl hji hN (by rw[d.hc.image];exact hN1) (by rw[d.hc.image];exact hN2)).mono ?_;rintro ee w' ⟨ao,cp,rfl,o,k2,t2⟩;exact⟨_,_,rfl,ao,cp,rfl,Yb o hb.size,k2,⟨t2.os.trans hb.os,t2.tape.trans hb.tape,t2.output.trans hb.output,aT9 hb.size t2.size,fun j hj hn=>(t2.block j (aU1 hj hb.size) hn).trans (hb.block j hj)⟩⟩
theorem ar5{n k:Nat}(l:Ld K s wn n k m)(hu:Mx w0 P w B m)(hr:Tk K w0 P)(id:Int)(hid:0<=id/\id<=65535)(D:List UInt8)(hD:D.length<=8)(Z:Mc->Prop)(LK:Looks (Tk K) 3 m.TE ⟨#[]⟩ ⟨D.toArray⟩ 0 [] 1 B m Z):
  f_ Vh 54 #[p_ B,.string (og.ni [2,0,0,0,0,42,2,0,0,0,0,7] 2048 (Ip.Db id 9 17 167772161 167772215 (Ud.sH 1 1038 167772161 167772215 (YD ((n+1)%65536) D))))] w fun ee w'=>ee=.returned (.tuple #[])/\∃mz,Z mz/\Mx w0 P w' B mz:=by
 obtain⟨ek,ez⟩:=ax8 ((n+1)%65536) D hD;have c:=l.bd.cf;have b:=l.bd;rw[l.TE]at LK;have q:=Zi hu hr Tk.base c.ok (by unfold Mc.lK;rw[l.ph];rfl) 2 0 0 0 0 7 id 1 (YD ((n+1)%65536) D) hid (by decide) (by rw[b.port];decide) (by rw[b.port];decide) ez (aT7 ⟨by rw[l.ph];rfl,l.Wl.symm⟩) (WN ((n+1)%65536) D) rfl ek ⟨fun e=>absurd e (by show ¬(3=1);decide),fun e=>absurd e (by show ¬(3=6);decide),fun _=>⟨rfl,rfl⟩,fun e=>absurd e (by show ¬(3=4);decide),fun e=>absurd e (by show ¬(3=5);decide)⟩ (by show(n+1)%65536<65536;omega) Z LK;rw[c.k0,c.k1,c.k2,c.k3,c.k4,c.k5,b.addr,b.FJ,b.port]at q;exact q
theorem aO9(ho:m.Ok)(v:Value)(D:List UInt8):∃x:Mc,x=m.got v D/\x.Ok/\x.TE=IntKind.u16.wrap (m.TE+1)/\x.since=wrap64 (m.since+1)/\x.ql=m.ql++D/\x.k0=m.k0/\x.k1=m.k1/\x.k2=m.k2/\x.k3=m.k3/\x.k4=m.k4/\x.k5=m.k5/\x.name=m.name/\x.cap=m.cap/\x.gQ=m.gQ/\x.blk=m.blk/\x.win=m.win/\x.rx=m.rx/\x.tx=m.tx/\x.cq=m.cq/\x.gq=m.gq/\x.st=m.st/\x.iB=m.iB/\x.mask=m.mask/\x.yz=m.yz/\x.FJ=m.FJ/\x.port=m.port/\x.now=m.now/\x.draw=m.draw/\x.phase=m.phase/\x.Wl=m.Wl/\x.Be=m.Be/\x.Od=m.Od/\x.cd=m.cd:=
 ⟨_,rfl,ad2 ho v D,rfl,rfl,rfl,rfl,rfl,rfl,rfl,rfl,rfl,rfl,rfl,rfl,rfl,rfl,rfl,rfl,rfl,rfl,rfl,rfl,rfl,rfl,rfl,rfl,rfl,rfl,rfl,rfl,rfl,rfl,rfl⟩
theorem aP4(ho:m.Ok)(hp:0<=m.port/\m.port<=65535)(hf:0<=m.Wl/\m.Wl<=65535):∃x:Mc,x=m.withheld/\x.Ok/\x.TE=m.TE/\x.since=m.since/\x.ql=m.ql/\x.k0=m.k0/\x.k1=m.k1/\x.k2=m.k2/\x.k3=m.k3/\x.k4=m.k4/\x.k5=m.k5/\x.name=m.name/\x.cap=m.cap/\x.gQ=m.gQ/\x.blk=m.blk/\x.win=m.win/\x.rx=m.rx/\x.tx=m.tx/\x.cq=m.cq/\x.gq=m.gq/\x.st=m.st/\x.iB=m.iB/\x.mask=m.mask/\x.yz=m.yz/\x.FJ=m.FJ/\x.port=m.port/\x.now=m.now/\x.draw=m.draw/\x.phase=m.phase/\x.Wl=m.Wl/\x.Be=m.Be/\x.Od=m.Od/\x.cd=m.cd:=by
 have hz:=YI m;exact⟨_,rfl,⟨ho.1,ho.2,ho.3,ho.4,ho.5,ho.6,ho.7,ho.8,ho.9,ho.10,ho.11,ho.12,⟨by show(0:Int)<=1;decide,by show(1:Int)<=4;decide⟩,hp,hf,by show m.Xx.size<=262144;omega⟩,rfl,rfl,rfl,rfl,rfl,rfl,rfl,rfl,rfl,rfl,rfl,rfl,rfl,rfl,rfl,rfl,rfl,rfl,rfl,rfl,rfl,rfl,rfl,rfl,rfl,rfl,rfl,rfl,rfl,rfl,rfl⟩
theorem ak4{n k:Nat}(l:Ld K s wn n k m)(hk:k<=100)(v:Value)(D:List UInt8)(hD:D=(s.drop (n*8)).take 8):∃x:Mc,x=m.got v D/\Ld K s wn (n+1) (k+1) x/\x.gq=m.gq:=by
 have c:=l.bd.cf;have b:=l.bd;obtain⟨x,hx,ox,q_nxt,q_since,q_imgL,q_k0,q_k1,q_k2,q_k3,q_k4,q_k5,q_name,q_cap,q_dig,q_blk,q_win,q_rx,q_tx,q_cq,q_gq,q_st,q_adr,q_mask,q_rou,q_ims,q_port,q_now,q_draw,q_phase,q_frm,q_fblk,q_fwin,q_cd⟩:=aO9 c.ok v D;refine⟨x,hx,⟨⟨⟨ox,q_k0.trans c.k0,q_k1.trans c.k1,q_k2.trans c.k2,q_k3.trans c.k3,q_k4.trans c.k4,q_k5.trans c.k5,q_name.trans c.name,q_cap.trans c.cap,by rw[q_dig];exact c.gQ,q_blk.trans c.blk,q_win.trans c.win,q_rx.trans c.rx,q_tx.trans c.tx,q_cq.trans c.cq⟩,q_st.trans b.st,q_adr.trans b.iB,q_mask.trans b.mask,q_rou.trans b.yz,q_ims.trans b.FJ,q_port.trans b.port,q_now.trans b.now,q_draw.trans b.draw⟩,q_phase.trans l.ph,q_frm.trans l.Wl,q_fblk.trans l.Be,q_fwin.trans l.Od,?_,?_,?_,q_cd.trans l.cd⟩,q_gq⟩
 ·rw[q_since,l.since,BL _ (by omega)];rfl
 ·rw[q_nxt,l.TE]
  show((((n+1)%65536:Nat):Int)+1)%65536=(((n+1+1)%65536:Nat):Int);omega
 rw[q_imgL,l.img,hD,show 8*(n+1)=n*8+8 by omega,show 8*n=n*8 by omega,List.take_add]
theorem aC6{n k:Nat}(l:Ld K s wn n k m):∃x:Mc,x=m.withheld/\Ld K s wn n k x/\x.gq=m.gq:=by
 have c:=l.bd.cf;have b:=l.bd;obtain⟨x,hx,ox,q_nxt,q_since,q_imgL,q_k0,q_k1,q_k2,q_k3,q_k4,q_k5,q_name,q_cap,q_dig,q_blk,q_win,q_rx,q_tx,q_cq,q_gq,q_st,q_adr,q_mask,q_rou,q_ims,q_port,q_now,q_draw,q_phase,q_frm,q_fblk,q_fwin,q_cd⟩:=aP4 c.ok (by rw[b.port];decide) (by rw[l.Wl];decide);exact⟨x,hx,⟨⟨⟨ox,q_k0.trans c.k0,q_k1.trans c.k1,q_k2.trans c.k2,q_k3.trans c.k3,q_k4.trans c.k4,q_k5.trans c.k5,q_name.trans c.name,q_cap.trans c.cap,by rw[q_dig];exact c.gQ,q_blk.trans c.blk,q_win.trans c.win,q_rx.trans c.rx,q_tx.trans c.tx,q_cq.trans c.cq⟩,q_st.trans b.st,q_adr.trans b.iB,q_mask.trans b.mask,q_rou.trans b.yz,q_ims.trans b.FJ,q_port.trans b.port,q_now.trans b.now,q_draw.trans b.draw⟩,q_phase.trans l.ph,q_frm.trans l.Wl,q_fblk.trans l.Be,q_fwin.trans l.Od,q_since.trans l.since,q_nxt.trans l.TE,q_imgL.trans l.img,q_cd.trans l.cd⟩,q_gq⟩
def m_(id:Int)(n:Nat)(D:List UInt8):ByteArray:=og.ni [2,0,0,0,0,42,2,0,0,0,0,7] 2048 (Ip.Db id 9 17 167772161 167772215 (Ud.sH 1 1038 167772161 167772215 (YD ((n+1)%65536) D)))
theorem Yr{op bl:Int}{ts ds:ByteArray}{n:Nat}{xs:List Value}{f:Int}{Z Z':Mc->Prop}{R:fV->(Nat->Prop)->Prop}(L:Looks R op bl ts ds n xs f B m Z)(hz:∀x,Z x->Z' x):Looks R op bl ts ds n xs f B m Z':=
 fun w0 P u sa sc g b h1 h2 h3 h4 h5 h6=>(L w0 P u sa sc g b h1 h2 h3 h4 h5 h6).mono fun ee w'=>by
  rintro ⟨e,mz,q,hm⟩;exact⟨e,mz,hz mz q,hm⟩
theorem Yi{n k:Nat}(l:Ld K s wn n k m)(g:m.gq=[])(id:Int)(hid:0<=id/\id<=65535)(D:List UInt8)(hD:D.length<=8)(Z:Mc->Prop)(hZ:∀mz,Z mz->mz.cq=[])(LK:∀(m2:Mc) (B:Nat),Ld K s wn n k m2->m2.gq=[]->Looks (Tk K) 3 m2.TE ⟨#[]⟩ ⟨D.toArray⟩ 0 [] 1 B m2 Z):XI (Tk K) (m.put (m_ id n D)) Z:=by
 have c:=l.bd.cf;obtain⟨F,hF⟩:=ex_ (m_ id n D);rw[<-hF];obtain⟨l2,g2,d2⟩:=aN0 l F;refine XO (Zq c.cq (by rw[c.rx];decide)) (by rw[Xo];show(m.phase==3||m.phase==4)=false;rw[l.ph];rfl) Z hZ (fun w0 P u B hr hu=> ?_);change Mx w0 P u B (nx m F)at hu;rw[hF]at hu l2 g2 ⊢;exact ar5 l2 hu hr id hid D hD Z (LK _ B l2 (g2.trans g))
theorem Ld.takes{n k:Nat}(l:Ld K s wn n k m)(D:List UInt8)(hD:D.length<=8)(hn:8*n+D.length<=600000):ah1 m D:=by
 have c:=l.bd.cf;have hl:m.ql.length<=8*n:=by rw[l.img,aU5];omega
 exact⟨c.ok,l.ph,by rw[l.Be];omega,by rw[c.cap];omega,by omega,by rw[l.bd.port];decide,by rw[l.Wl];decide⟩
theorem Zm{n k:Nat}(l:Ld K s wn n k m)(g:m.gq=[])(id:Int)(hid:0<=id/\id<=65535)(hk:k+1<wn)(hw:wn<=8)(hn:(n+1)*8<=s.length)(hz:s.length<=600000):
  XI (Tk K) (m.put (m_ id n ((s.drop (n*8)).take 8))) (fun mz=>Ld K s wn (n+1) (k+1) mz/\mz.gq=[]):=by
 have hD:((s.drop (n*8)).take 8).length=8:=by rw[aU5,aW1];omega
 obtain⟨D,hDD⟩:=ex_ ((s.drop (n*8)).take 8);rw[<-hDD]at hD ⊢;refine Yi l g id hid D (by omega) _ (fun mz y=>y.1.bd.cf.cq) (fun m2 B l2 g2=> ?_);refine Yr (al1 (l2.takes D (by omega) (by omega)) 1 (by rw[l2.Be];omega) (by rw[l2.since,l2.Od,BL _ (by omega)];omega)) ?_;rintro mz ⟨v,rfl⟩;obtain⟨x,hx,lx,gx⟩:=ak4 l2 (by omega) v D hDD;obtain⟨y,hy,ly,gy⟩:=aC6 lx;rw[<-hx,<-hy];exact⟨ly,gy.trans (gx.trans g2)⟩
theorem an2{n k:Nat}(l:Ld K s wn n k m)(g:m.gq=[])(id:Int)(hid:0<=id/\id<=65535)(hk:k+1=wn)(hw:wn<=8)(hn:(n+1)*8<=s.length)(hz:s.length<=600000):
  XI (Tk K) (m.put (m_ id n ((s.drop (n*8)).take 8))) (fun mz=>Ld K s wn (n+1) 0 mz/\∃i:Int,(0<=i/\i<=65535)/\mz.gq=[rZ i 1038 1 (XM (n+1))]):=by
 have hD:((s.drop (n*8)).take 8).length=8:=by rw[aU5,aW1];omega
 obtain⟨D,hDD⟩:=ex_ ((s.drop (n*8)).take 8);rw[<-hDD]at hD ⊢;refine Yi l g id hid D (by omega) _ (fun mz y=>y.1.bd.cf.cq) (fun m2 B l2 g2=> ?_);refine Yr (aj0 (l2.takes D (by omega) (by omega)) Yp l2.hop 1 (by rw[l2.Be];omega) (by rw[l2.since,l2.Od,BL _ (by omega)];omega)) ?_;rintro mz ⟨v,rfl⟩;obtain⟨x,hx,lx,gx⟩:=ak4 l2 (by omega) v D hDD;rw[<-hx];exact XL lx (gx.trans g2)
structure Dn (s:List UInt8) (m:Mc):Prop where
 ph:m.phase=3
 img:m.ql=s
 cq:m.cq=[]
theorem an1{n k:Nat}(l:Ld K s wn n k m)(g:m.gq=[])(id:Int)(hid:0<=id/\id<=65535)(hk:k<=100)(hn0:n*8<=s.length)(hn:s.length<(n+1)*8)(hz:s.length<=600000):
  XI (Tk K) (m.put (m_ id n ((s.drop (n*8)).take 8))) (fun mz=>Dn s mz/\∃i:Int,(0<=i/\i<=65535)/\mz.gq=[rZ i 1038 1 (XM (n+1))]):=by
 have hD:((s.drop (n*8)).take 8).length=s.length-n*8:=by rw[aU5,aW1];omega
 obtain⟨D,hDD⟩:=ex_ ((s.drop (n*8)).take 8);rw[<-hDD]at hD ⊢;have hs:s.take (8*(n+1))=s:=aY0 (by omega);refine Yi l g id hid D (by omega) _ (fun mz y=>y.1.cq) (fun m2 B l2 g2=> ?_);have hi:m2.ql++D=s:=by
  rw[l2.img,hDD,show 8*n=n*8 by omega,<-List.take_add,show n*8+8=8*(n+1)by omega,hs]
 have hl:m2.ql.length+D.length=s.length:=by rw[<-aS9,hi]
 refine Yr (an5 (l2.takes D (by omega) (by omega)) Yp l2.hop 1 (by rw[l2.Be];omega) (by omega) (by rw[hi];exact l2.bd.cf.gQ)) ?_;rintro mz ⟨v,rfl⟩;obtain⟨x,hx,lx,gx⟩:=ak4 l2 (by omega) v D hDD;rw[<-hx];obtain⟨ly,i,hi2,gy⟩:=XL lx (gx.trans g2);obtain⟨y,hy⟩:=ex_ (x.answered Yp);rw[<-hy]at ly gy ⊢;exact⟨⟨rfl,ly.img.trans hs,ly.bd.cf.cq⟩,i,hi2,gy⟩
theorem aE6(k:Hc img h)(hp:h.port=1)(hs:s=img.data.toList)(n:Nat):h.ac2 1038 n=m_ h.Ww.id n ((s.drop (n*8)).take 8):=by
 unfold Host.ac2 Host.frame m_ Host.blk;rw[k.image,k.next,hp,hs]
theorem ap2(h:Host)(f:Int)(a n i:Nat)(hi:i<(h.WE f a n).length):(h.WE f a n)[i]=(h.YP i).ac2 f (a+i):=by
 have e:h.WE f a n=(List.range n).map fun i=>(h.YP i).ac2 f (a+i):=rfl;simp only[e,List.getElem_map,List.getElem_range]
theorem YH(h:Host)(f:Int)(a n:Nat):(h.WE f a n).length=n:=by unfold Host.WE;simp
theorem YJ(h:Host)(f:Int)(a n:Nat):∀x ∈ h.WE f a n,x.size<=2000:=by
 intro x hx;unfold Host.WE at hx;rw[bj3]at hx;obtain⟨i,_,rfl⟩:=hx;unfold Host.ac2;exact Yk _ _ _ _ _ _
theorem al6(snt j:Nat)(la:Int)(d:Hd img wn snt la h)(N:Nat):Hd img wn (snt+j) (((snt+j)%65536:Nat):Int) ((h.Wv (((snt+j)%65536:Nat):Int) (snt+j:Nat)).YP N):=by
 refine⟨⟨d.hc.image,d.hc.gK,d.hc.next,d.hc.opts,?_⟩,d.port,d.block,d.window,rfl,rfl⟩;unfold Host.YP;show 0<=(if N=0 then h.id else IntKind.u16.wrap (h.id+N))/\(if N=0 then h.id else IntKind.u16.wrap (h.id+N))<=65535
 split
 ·exact d.hc.id
 exact QQ _
theorem XC{R:fV->(Nat->Prop)->Prop}{Z Z':Mc->Prop}(p:XI R m Z)(hz:∀x,Z x->Z' x):XI R m Z':=
 fun w Q B hb hr=>(p w Q B hb hr).mono fun ee w'=>by
  rintro ⟨e,mz,q,hm⟩;exact⟨e,mz,hz mz q,hm⟩
theorem Wd.host{j:Nat}(z:Wd K s img wn j m h)(hw:1<=wn/\wn<=8):∃(snt jj:Nat) (la:Int),Hd img wn snt la h/\snt+jj=j*wn/\jj<=wn/\la≠(((snt+jj)%65536:Nat):Int)/\∀i,i<jj->(((snt+i)%65536:Nat):Int)≠(((snt+jj)%65536:Nat):Int):=by
 rcases z.hd with⟨rfl,d⟩|⟨hj,d⟩
 ·exact⟨0,0, -1,d,by simp,by omega,by decide,fun i hi=>absurd hi (by omega)⟩
 obtain⟨t,ht⟩:=ex_ ((j-1)*wn);rw[<-ht]at d;have e:t+wn=j*wn:=by
  rw[ht];obtain⟨j,rfl⟩:∃j',j=j'+1:=⟨j-1,by omega⟩;rw[Nat.add_sub_cancel,Nat.succ_mul]
 exact⟨t,wn,_,d,e,aS5 _,by omega,fun i hi=>by omega⟩
def Host.told(h:Host)(n:Nat):Host:=h.Wv ((n%65536:Nat):Int) (n:Nat)
theorem Zc{j:Nat}(z:Wd K s img wn j m h)(hw:1<=wn/\wn<=8)(hz:img.size<=600000)(hj:j*wn<=100000)(i:Int)(hi:0<=i/\i<=65535)(N:Nat)(hN:N<=wn)(hN1:∀i,i<N->(j*wn+i)*8<=img.size)(hN2:N=wn∨img.size<(j*wn+N)*8):
  YC NA h (rZ i 1038 1 (XM (j*wn))) ((h.told (j*wn)).WE 1038 (j*wn) N) ((h.told (j*wn)).YP N)/\∀k,Hd img wn (j*wn) (((j*wn)%65536:Nat):Int) ((h.told (j*wn)).YP k):=by
 obtain⟨snt,jj,la,d,e,h1,h2,h3⟩:=z.host hw;rw[<-e]at hN1 hN2 hj ⊢;exact⟨YU i hi snt jj N la d hw hz hj h1 h2 h3 hN hN1 hN2,fun k=>al6 snt jj la d k⟩
theorem Hd.aN6{snt:Nat}{la:Int}(d:Hd img wn snt la h)(hs:s=img.data.toList)(n:Nat):h.ac2 1038 n=m_ h.Ww.id n ((s.drop (n*8)).take 8):=aE6 d.hc d.port hs n
theorem at5(j:Nat)(hw:1<=wn/\wn<=8)(hz:img.size<=600000)(hs:s=img.data.toList)(hfull:(j*wn+wn)*8<=img.size):XJ (Tk K) NA (fun m h=>Wd K s img wn j m h) (fun m h=>Wd K s img wn (j+1) m h):=by
 rintro m h z;obtain⟨i,hi,eg⟩:=z.gq;have hsl:s.length=img.size:=by rw[hs];rfl
 obtain⟨HA,HD⟩:=Zc z hw hz (by omega) i hi wn (aS5 _) (fun k hk=>by omega) (aT2 rfl);have e1:(j+1)*wn=j*wn+wn:=Nat.succ_mul j wn;obtain⟨a,ha⟩:=ex_ (j*wn);have l0:=z.ld;rw[<-ha]at HA HD eg hfull e1 l0;obtain⟨h1,hh1⟩:∃h1:Host,h1=h.told a:=⟨_,rfl⟩;rw[<-hh1]at HA HD;have hl:=YH h1 1038 a wn;refine⟨_,_,_,fun k m1=>(k<wn/\Ld K s wn (a+k) k m1/\m1.gq=[])∨(k=wn/\Ld K s wn (a+wn) 0 m1/\∃i:Int,(0<=i/\i<=65535)/\m1.gq=[rZ i 1038 1 (XM (a+wn))]),eg,HA,by rw[hl];omega,YJ _ _ _ _,aT2 ⟨by omega,l0.taken,Xi m⟩,?_,?_⟩
 ·intro k hk m1 hm1
  rw[hl]at hk
  rcases hm1 with⟨_,l1,g1⟩|⟨e,_⟩
  ·have c:=l1.bd.cf
   refine⟨by rw[c.cq,c.rx];decide,?_⟩;rw[ap2,(HD k).aN6 hs]
   by_cases hk1:k+1<wn
   ·refine XC (Zm l1 g1 _ (QQ _) hk1 hw.2 (by omega) (by omega)) ?_
    rintro x ⟨lx,gx⟩;exact aT2 ⟨hk1,lx,gx⟩
   have hk2:k+1=wn:=by omega
   refine XC (an2 l1 g1 _ (QQ _) hk2 hw.2 (by omega) (by omega)) ?_;rintro x ⟨lx,gx⟩;have e2:a+k+1=a+wn:=by omega
   rw[e2]at lx gx;exact aT7 ⟨hk2,lx,gx⟩
  omega
 intro m1 hm1;rw[hl]at hm1
 rcases hm1 with⟨e,_⟩|⟨_,l1,g1⟩
 ·omega
 refine⟨by rw[e1];exact l1,by rw[e1];exact g1,aT7 ⟨by omega,?_⟩⟩;rw[Nat.add_sub_cancel,<-ha];exact HD wn
structure Fn (s:List UInt8) (img:ByteArray) (wn a c:Nat) (m:Mc) (h:Host):Prop where
 dn:Dn s m
 gq:∃i:Int,(0<=i/\i<=65535)/\m.gq=[rZ i 1038 1 (XM (a+c))]
 hd:Hd img wn a ((a%65536:Nat):Int) h
theorem aj6(j c:Nat)(hw:1<=wn/\wn<=8)(hz:img.size<=600000)(hs:s=img.data.toList)(hc:1<=c/\c<=wn)(h1:(j*wn+c-1)*8<=img.size)(h2:img.size<(j*wn+c)*8):XJ (Tk K) NA (fun m h=>Wd K s img wn j m h) (fun m h=>Fn s img wn (j*wn) c m h):=by
 rintro m h z;obtain⟨i,hi,eg⟩:=z.gq;have hsl:s.length=img.size:=by rw[hs];rfl
 obtain⟨HA,HD⟩:=Zc z hw hz (by omega) i hi c hc.2 (fun k hk=>by omega) (aT7 h2);obtain⟨a,ha⟩:=ex_ (j*wn);have l0:=z.ld;rw[<-ha]at HA HD eg h1 h2 l0 ⊢;obtain⟨hh,hhe⟩:∃h1:Host,h1=h.told a:=⟨_,rfl⟩;rw[<-hhe]at HA HD;have hl:=YH hh 1038 a c;refine⟨_,_,_,fun k m1=>(k<c/\Ld K s wn (a+k) k m1/\m1.gq=[])∨(k=c/\Dn s m1/\∃i:Int,(0<=i/\i<=65535)/\m1.gq=[rZ i 1038 1 (XM (a+c))]),eg,HA,by rw[hl];omega,YJ _ _ _ _,aT2 ⟨by omega,l0.taken,Xi m⟩,?_,?_⟩
 ·intro k hk m1 hm1
  rw[hl]at hk
  rcases hm1 with⟨_,l1,g1⟩|⟨e,_⟩
  ·have c1:=l1.bd.cf
   refine⟨by rw[c1.cq,c1.rx];decide,?_⟩;rw[ap2,(HD k).aN6 hs]
   by_cases hk1:k+1<c
   ·refine XC (Zm l1 g1 _ (QQ _) (by omega) hw.2 (by omega) (by omega)) ?_
    rintro x ⟨lx,gx⟩;exact aT2 ⟨hk1,lx,gx⟩
   have hk2:k+1=c:=by omega
   refine XC (an1 l1 g1 _ (QQ _) (by omega) (by omega) (by omega) (by omega)) ?_;rintro x ⟨lx,gx⟩;have e2:a+k+1=a+c:=by omega
   rw[e2]at gx;exact aT7 ⟨hk2,lx,gx⟩
  omega
 intro m1 hm1;rw[hl]at hm1
 rcases hm1 with⟨e,_⟩|⟨_,l1,g1⟩
 ·omega
 exact⟨l1,g1,HD c⟩
theorem ar3(a c:Nat)(hw:1<=wn/\wn<=8)(hz:img.size<=600000)(hc:1<=c/\c<=wn)(h1:(a+c-1)*8<=img.size)(h2:img.size<(a+c)*8):XJ (Tk K) NA (fun m h=>Fn s img wn a c m h) (fun m h=>Dn s m/\m.gq=[]):=by
 rintro m h z;obtain⟨i,hi,eg⟩:=z.gq;have HA:=YU i hi a c 0 _ z.hd hw hz (by omega) hc.2 (by omega) (fun k hk=>by omega) (aV3 _) (fun k hk=>absurd hk (by omega)) (aT7 (by omega));refine⟨_,_,_,fun _ m1=>m1=m.taken,eg,HA,by rw[YH];omega,YJ _ _ _ _,rfl,?_,?_⟩
 ·intro k hk
  rw[YH]at hk;omega
 rintro m1 rfl;exact⟨⟨z.dn.ph,z.dn.img,z.dn.cq⟩,Xi m⟩
def It(K:Nat->Nat)(s:List UInt8)(img:ByteArray)(wn:Nat):Nat->Mc->Host->Prop
 |0=>fun m h=>I0 K s wn m/\H0 img h
 |1=>fun m h=>(S2 K s wn [] m/\m.now=1)/\H0 img h
 |_=>fun m h=>(S2 K s wn [] m/\m.now=2)/\H0 img h
def Jt(K:Nat->Nat)(s:List UInt8)(img:ByteArray)(wn q c:Nat):Nat->Nat->Mc->Host->Prop
 |0,0=>fun m h=>S0 K s wn m/\H0 img h
 |0,1=>fun m h=>S1 K s wn m/\H0 img h
 |0,2=>fun m h=>(S2 K s wn [Yg] m/\m.now=1)/\H0 img h
 |0,_=>fun m h=>(S2 K s wn [] m/\m.now=1)/\H0 img h
 |1,_=>fun m h=>(S2 K s wn [] m/\m.now=2)/\H0 img h
 |_,0=>fun m h=>T0 K s wn m/\H0 img h
 |_,1=>fun m h=>T1 K s wn m/\H0 img h
 |_,r+2=>fun m h=>if r<=q then Wd K s img wn r m h else if r=q+1 then Fn s img wn (q*wn) c m h else Dn s m/\m.gq=[]
def Nt(q:Nat):Nat->Nat
 |0=>3
 |1=>0
 |_=>q+4
theorem jt2(q c r:Nat):Jt K s img wn q c 2 (r+2) m h=(if r<=q then Wd K s img wn r m h else if r=q+1 then Fn s img wn (q*wn) c m h else Dn s m/\m.gq=[]):=rfl
theorem H0.clock(hh:H0 img h)(t:Int):H0 img {h with now:=t}:=⟨⟨hh.1.image,hh.1.gK,hh.1.next,hh.1.opts,hh.1.id⟩,hh.2⟩
theorem XE{R:fV->(Nat->Prop)->Prop}{C:fV->Prop}{J J' J2 J2':Mc->Host->Prop}(r:XJ R C J J')(h1:∀m h,J2 m h->J m h)(h2:∀m h,J' m h->J2' m h):XJ R C J2 J2':=by
 intro m h j;obtain⟨f,l,h',Zs,a,b,c,d,e,g,i⟩:=r m h (h1 m h j);exact⟨f,l,h',Zs,a,b,c,d,e,g,fun m1 z=>h2 _ _ (i m1 z)⟩
theorem an0(hN:aB1 wn img.size)(hs:s=img.data.toList)(q c:Nat)(hq:q*wn+c=img.size/8+1)(hc:1<=c/\c<=wn)(t r:Nat)(ht:t<3)(hr:r<Nt q t):XJ (Tk K) NA (Jt K s img wn q c t r) (Jt K s img wn q c t (r+1)):=by
 have hw:=hN.w;have hz:=hN.z;obtain⟨a,ha⟩:=ex_ (q*wn);rw[<-ha]at hq
 match t,ht with
 |0,_=>
  match r,hr with
  |0,_=>exact aI3
  |1,_=>exact aJ3
  |2,_=>exact aI4
 |1,_=>exact absurd hr (by show ¬r<0;omega)
 |2,_=>
  match r,hr with
  |0,_=>exact au9
  |1,_=>exact XE (ak3 hN) (fun m h j=>j) (fun m h j=>by
    refine Eq.mpr (jt2 q c 0) ?_
    rw[aU0 (aV3 _)];exact j)
  |r+2,hr=>
   have hr':r+2<q+4:=hr
   by_cases h1:r<q
   ·have h3:(r+1)*wn<=q*wn:=Nat.mul_le_mul_right _ h1
    rw[<-ha,Nat.succ_mul]at h3;refine XE (at5 r hw hz hs (by omega)) (fun m h j=> ?_) (fun m h j=> ?_)
    ·replace j:=Eq.mp (jt2 q c (r)) j
     rw[aU0 (by omega)]at j;exact j
    refine Eq.mpr (jt2 q c (r+1)) ?_;rw[aU0 (by omega)];exact j
   by_cases h2:r=q
   ·subst h2
    refine XE (aj6 r c hw hz hs hc (by omega) (by omega)) (fun m h j=> ?_) (fun m h j=> ?_)
    ·replace j:=Eq.mp (jt2 r c (r)) j
     rw[aU0 (by omega)]at j;exact j
    refine Eq.mpr (jt2 r c (r+1)) ?_;rw[aT4 (by omega),aU0 rfl];exact j
   have h4:r=q+1:=by omega
   subst h4;refine XE (ar3 (s:=s) (q*wn) c hw hz hc (by omega) (by omega)) (fun m h j=> ?_) (fun m h j=> ?_)
   ·replace j:=Eq.mp (jt2 q c (q+1)) j
    rw[aT4 (by omega),aU0 rfl]at j;exact j
   refine Eq.mpr (jt2 q c (q+1+1)) ?_;rw[aT4 (by omega),aT4 (by omega)];exact j
theorem ai1(M:Nat)(hM:3<=M/\M<=100000)(hN:aB1 wn img.size)(hs:s=img.data.toList)(tb:Tb w0)(rg:Hs.RG w0 3 K)(hk:∀j,K j<4294967296)(hcd:NA w0)
  (hbx:Bx w (iq B m) w Q B m) (hho:At w H h) (hbl:gm w0.heap.size w0 w) (hng:4<=w0.heap.size) (huq:w0.heap.size<=Q) (huh:w0.heap.size<=H) (huf:∀k,iq B m k->w0.heap.size<=k) (i0:I0 K s wn m) (hh:H0 img h):
  f_ Vh 11 #[p_ Q,p_ H,.slice none 0 0,.int .i64 0,.int .i64 M] w fun ee w'=>ee=.returned (.bool true)/\∃G mz hz,All w0 w' Q B H G mz hz/\Dn s mz:=by
 have hw:=hN.w;obtain⟨q,hq⟩:=ex_ (img.size/8/wn);have e1:=Nat.div_add_mod (img.size/8) wn;have e2:=aY1 (img.size/8) (show 0<wn by omega);rw[<-hq,Nat.mul_comm]at e1;obtain⟨c,hce⟩:=ex_ (img.size/8%wn+1);have hq8:q<=600000:=by
  have:=hN.z;have h1:=Nat.div_le_self (img.size/8) wn;omega
 refine(at6 (R:=Tk K) NA (fun u hb=>hcd.of (hb.block _ ?_) (hb.block _ ?_)) (fun u Q B H G m h a=> ?_) hbx hho hbl hng huq huh huf M 3 hM.2 hM.1 (by decide) (Nt q) ?_ (It K s img wn) (Jt K s img wn q c) ⟨i0,hh⟩ ?_ (fun t r ht hr=>an0 hN hs q c (by omega) (by omega) t r ht hr) ?_).mono ?_
 ·exact aU1 (by decide) hng
 ·exact aU1 (by decide) hng
 ·refine Tk.aL6 a.bx.mx (tb.below a.bl (aS5 _)) (fun hf=> ?_) (rg.below a.bl rg.lt) hk
  have:=a.uf _ hf;have:=tb.lt;omega
 ·intro t
  unfold Nt
  split<;>omega
 ·intro t m h ht hi
  match t,ht with
  |0,_=>exact aH1 hi.1 _ (fun mz z=>⟨z,hi.2.clock _⟩)
  |1,_=>exact aI6 hi.1.1 hi.1.2 _ (fun mz z hn=>⟨⟨z,hn⟩,hi.2.clock _⟩)
  |2,_=>exact aH4 hi.1.1 hi.1.2 hw _ (fun mz z=>⟨z,hi.2.clock _⟩)
 ·intro t m h ht j
  match t,ht with
  |0,_=>
   have j':(S2 K s wn [] m/\m.now=1)/\H0 img h:=j;exact⟨j'.1.1.gq,fun _=>⟨by rw[j'.1.1.ph];decide,by rw[j'.1.1.ph];decide,j'⟩,fun e=>absurd e (by decide)⟩
  |1,_=>
   have j':(S2 K s wn [] m/\m.now=2)/\H0 img h:=j;exact⟨j'.1.1.gq,fun _=>⟨by rw[j'.1.1.ph];decide,by rw[j'.1.1.ph];decide,j'⟩,fun e=>absurd e (by decide)⟩
  |2,_=>
   replace j:=Eq.mp (jt2 q c (q+2)) j
   rw[aT4 (by omega),aT4 (by omega)]at j;exact⟨j.2,fun e=>absurd e (by decide),fun _=>j.1.ph⟩
 rintro ee w' ⟨rfl,G,mz,hz,a,j⟩;replace j:=Eq.mp (jt2 q c (q+2)) j
 rw[aT4 (by omega),aT4 (by omega)]at j;exact⟨rfl,G,mz,hz,a,j.1⟩
end Ho
namespace Ho
open Bs Js
theorem dg1(n:Nat)(h:n<10):dg n=[UInt8.ofNat (48+n)]:=by rw[dg,aU0 h]
theorem dg8:dg 8=[56]:=by rw[dg1 8 (by decide)];rfl
theorem bm2:dg 1=[49]:=by rw[dg1 1 (by decide)];rfl
theorem dg5:dg 5=[53]:=by rw[dg1 5 (by decide)];rfl
theorem it8:Lib.itoa 8=[56]:=by decide+kernel
theorem it1:Lib.itoa 1=[49]:=by decide+kernel
theorem it5:Lib.itoa 5=[53]:=by decide+kernel
theorem aL7:Xa ⟨(dg 8).toArray⟩ 8:=by
 rw[dg8];exact⟨by decide,by decide+kernel,by rw[it8],by decide⟩
theorem bm6:Xa ⟨(dg 1).toArray⟩ 1:=by
 rw[bm2];exact⟨by decide,by decide+kernel,by rw[it1],by decide⟩
theorem bm5:Xa ⟨(dg 5).toArray⟩ 5:=by
 rw[dg5];exact⟨by decide,by decide+kernel,by rw[it5],by decide⟩
theorem vk:Xc [107,101,114,110,101,108] 8 (1:Nat)=⟨1,0,[107,101,114,110,101,108],[],[([98,108,107,115,105,122,101],[56]),([119,105,110,100,111,119,115,105,122,101],[49]),([116,115,105,122,101],[48])]⟩:=by
 unfold Xc;rw[it8,show((1:Nat):Int)=1 from rfl,it1]
theorem bm0:aB1 1 5 where
 w:=by decide
 z:=by decide
 rk:=by rw[vk];decide+kernel
 nb:=by rw[vk];decide+kernel
 nw:=by rw[vk];decide+kernel
 fz:=by rw[vk];decide+kernel
 i1:=bm5
 i2:=aL7
 i3:=bm6
 ok:=by rw[dg5,dg8,bm2];decide+kernel
end Ho
namespace Ho
open Bs Js
variable{w0 w w':fV} {P:Nat→Prop} {Q B H G:Nat} {m m':Mc} {h h':Host} {K:Nat→Nat} {s:List UInt8} {wn:Nat} {img:ByteArray}
theorem ah9(c:NA w):Kd w:=⟨c.1,c.2.1,c.2.2.1,c.2.2.2.1,c.2.2.2.2.1,c.2.2.2.2.2.1⟩
theorem z0(n:Int)(h:0<=n):0<=(0:Int)/\(0:Int)<=n:=⟨Int.le_refl _,h⟩
theorem aJ2(D:ByteArray)(e:D.data.toList=Hs.Xk K s)(bm cg gg:Nat):I0 K s wn (Qb (qg.mk 2 0 0 0 0 42 ⟨#[107,101,114,110,101,108]⟩ 600000 D 8 wn ((16:Nat):Int) ((16:Nat):Int)) bm cg gg):=
 ⟨⟨⟨z0 _ (by decide),z0 _ (by decide),z0 _ (by decide),z0 _ (by decide),z0 _ (by decide),z0 _ (by decide),z0 _ (by decide),z0 _ (by decide),z0 _ (by decide),z0 _ (by decide),z0 _ (by decide),z0 _ (by decide),z0 _ (by decide),z0 _ (by decide),z0 _ (by decide),by show(⟨#[]⟩:ByteArray).size<=262144;decide⟩,rfl,rfl,rfl,rfl,rfl,rfl,rfl,rfl,e,rfl,rfl,rfl,rfl,rfl⟩,rfl,rfl,rfl,rfl,rfl,rfl⟩
theorem as3(hw:1<=wn/\wn<=8):(qg.mk 2 0 0 0 0 42 ⟨#[107,101,114,110,101,108]⟩ 600000 ⟨(Hs.Xk K s).toArray⟩ 8 wn ((16:Nat):Int) ((16:Nat):Int)).Good:=by
 refine⟨by show nO 2 0 0 0 0 42=true;decide,by show Tf.iM [107,101,114,110,101,108]=true;decide,by show(⟨#[107,101,114,110,101,108]⟩:ByteArray).size<=20;decide,?_,⟨by show(1:Int)<=600000;decide,by show(600000:Int)<=600000;decide⟩,⟨by show(8:Int)<=8;decide,by show(8:Int)<=1024;decide⟩,⟨by show(1:Int)<=wn;omega,by show(wn:Int)<=8;omega⟩,⟨by show(1:Int)<=((16:Nat):Int);decide,by show((16:Nat):Int)<=16;decide⟩,⟨by show(1:Int)<=((16:Nat):Int);decide,by show((16:Nat):Int)<=16;decide⟩⟩;show(Hs.Xk K s).toArray.size=32;rw[aZ9,Hs.XV]
theorem Vi(K:Nat->Nat)(w:fV)(hng:4<=w.heap.size)(hgl:Gl w)(hcd:NA w)(hG:Hs.RG w 3 K)(hK:∀j,K j<4294967296)(tb:Tb w):
  f_ Vh 13 #[] w fun ee w'=>ee=.returned (.bool true)/\gm w.heap.size w w':=by
 have HGL:=M0 hgl;have HCD:=M0 hcd;have HG:=M0 hG;have HTB:=M0 tb;have HNG:=M0 hng;clear hgl hcd hG tb hng;obtain⟨l,hl⟩:∃l:List UInt8,l=[104,101,108,108,111]:=⟨_,rfl⟩;obtain⟨img,himg⟩:∃img:ByteArray,img=⟨#[104,101,108,108,111]⟩:=⟨_,rfl⟩;have hil:img.data.toList=l:=by rw[himg,hl]
 have his:img.size=5:=by rw[himg];rfl
 have HC:=M0 (ak0 img l K 8 1 w hil (by rw[hl];decide) HG hK (ah9 HCD));obtain⟨dg,hdg⟩:∃dg:ByteArray,dg=⟨(Hs.Xk K l).toArray⟩:=⟨_,rfl⟩;have HGOOD:=M0 (as3 (K:=K) (s:=l) (wn:=1) (by decide));rw[<-hdg]at HC HGOOD;have HDL:Hid (dg.data.toList=Hs.Xk K l):=M0 (by rw[hdg]);have HIL:=M0 hil;have HIS:=M0 his;clear hdg hil his hl;go_enter func13,ntmps13;rw[<-himg];clear himg;go_wp2_with fail;refine on_ HC fun u2 hb2=>?_;have HB2:=M0 hb2;clear hb2 HC;go_wp2_with fail;refine(ae0 2 0 0 0 0 42 _ 600000 dg 8 1 16 16 HGOOD _ (aT9 HNG HB2.size) (HGL.below HB2 HNG)).mono ?_;rintro ee u3 ⟨Q,B,bm,cg,gg,rfl,hu3,hq3⟩;have H3:Hid (Bx w (fun _=>False) u3 Q B (Qb (qg.mk 2 0 0 0 0 42 ⟨#[107,101,114,110,101,108]⟩ 600000 dg 8 ((1:Nat):Int) ((16:Nat):Int) ((16:Nat):Int)) bm cg gg)):=M0 ⟨hu3.mx.under HB2 HNG HGL,hu3.row⟩;have HI:=M0 (aJ2 (K:=K) (s:=l) (wn:=1) dg HDL bm cg gg);have HQ:Hid (w.heap.size<=Q):=M0 (aT9 HB2.size hq3);generalize Qb (qg.mk 2 0 0 0 0 42 ⟨#[107,101,114,110,101,108]⟩ 600000 dg 8 ((1:Nat):Int) ((16:Nat):Int) ((16:Nat):Int)) bm cg gg=m0 at*;clear hu3 hq3 HB2 HGOOD HDL;have HAL:Hid (gm w.heap.size w (u3.alloc (.cells (aa2 img).cells 39))/\Bx w (fun _=>False) (u3.alloc (.cells (aa2 img).cells 39)) Q B m0/\At (u3.alloc (.cells (aa2 img).cells 39)) u3.heap.size (aa2 img)/\w.heap.size<=u3.heap.size):=M0 (by
  have b3:=gB H3
  have b4:=b3.alloc (.cells (aa2 img).cells 39)
  exact⟨⟨b4.mx.os,b4.mx.tape,b4.mx.output,b4.mx.size,fun k hk=>b4.mx.kept k hk (fun f=>f)⟩,b4,aS6 u3 _,b3.mx.size⟩)
 clear H3;unfold aa2 Host.cells at HAL;dsimp only at HAL;generalize hU:u3.alloc (.cells #[.string img,.int .u32 4294967295,.int .u32 167772161,.bool true,.int .u16 0,.int .i64 0,.int .i64 0,.int .i64 0,.int .i64 0,.int .i64 0,.int .i64 0,.int .u16 0] 39)=U at HAL;go_wp2_with fail;refine(ai1 100 (by decide) (img:=img) (s:=l) (wn:=1) (by rw[gB HIS];exact bm0) HIL.symm HTB HG hK HCD HAL.2.1.base HAL.2.2.1 HAL.1 HNG HQ HAL.2.2.2 (fun k hf=> ?_) HI ⟨⟨rfl,rfl,rfl,rfl,z0 _ (by decide)⟩,rfl⟩).mono ?_
 ·exact(HAL.2.1.mx.own k hf).resolve_left (fun f=>f)
 rintro ee u4 ⟨rfl,G,mz,hz,a4,d4⟩;have HG4:=M0 (aD8 a4.bx d4.ph img (by rw[d4.img,<-gB HIL]));have HB4:=M0 a4.bl;clear a4 d4 HAL hU HI HIL HIS;go_wp2_with fail;refine on_ HG4 fun u5 hb5=>?_;have HB5:=M0 (HB4.trans (hb5.mono HB4.size));clear HG4 hb5 HB4;go_wp2;go_ret;exact⟨rfl,HB5⟩
end Ho
end Go.Proofs.YtdgacidndknceaaGreatDoor
