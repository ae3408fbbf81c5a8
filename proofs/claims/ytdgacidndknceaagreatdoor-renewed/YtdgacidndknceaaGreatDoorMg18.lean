import Derived.Test.YtdgacidndknceaaGreatDoorMg12
import Derived.Test.YtdgacidndknceaaGreatDoorMg17
set_option linter.all false
set_option maxHeartbeats 8000000
set_option maxRecDepth 10000
open Go.ChangeShapes Go.WideShapes Go.ChangeAt Go.RowKit
open Go renaming World → fV, Calls → f_
open Go.RowKit renaming Below → gm
open Go.Proofs.Tryz renaming prog → Vh
open Go.Proofs.Tryz
namespace Go.Proofs.YtdgacidndknceaaGreatDoor
namespace Ho
open Bs Dh
def Y2:gU->UInt8->List UInt8
 |[],_=> []
 |o::r,c=>if o.1=c then o.2 else Y2 r c
theorem aq4(os:gU)(c:UInt8)(k:Nat)(h:k<os.length):Y2 (os.drop k) c=if os[k].1=c then os[k].2 else Y2 (os.drop (k+1)) c:=by
 rw[br9 h];rfl
theorem Ii(a:Option Addr)(cap:Nat)(os:gU)(c:UInt8)(w:fV)(hA:Dh.At w a os)(hl:os.length<=1000):
  f_ Vh 67 #[.slice a os.length cap,.int .u8 c.toNat] w fun e w'=>e=.returned (.string ⟨(Y2 os c).toArray⟩)/\gm w.heap.size w w':=by
 have HA:=M0 hA;clear hA;go_enter func67,ntmps67;go_wp2;go_loopw [9] (fun i wr=>∃k:Nat,k<=os.length/\i=.int .i64 k/\Hid (Y2 os c=Y2 (os.drop k) c)/\Hid (gm w.heap.size w wr)) (fun i _=>os.length-(intOf i).toNat)
 case atStart=>exact⟨0,bp3 _,rfl,M0 rfl,M0 (bn9 _ _)⟩
 obtain⟨k,hk,rfl,HO,HW⟩:=hrel;rename fV=>wr;have hwz:=HW.size
 by_cases hlt:k<os.length
 ·obtain⟨ad,rfl,c0,c1⟩:=HA.below HW (bn7 _) k hlt
  have hd:=aq4 os c k hlt;obtain⟨oc,od,hcd⟩:∃x y,os[k]=(x,y):=⟨_,_,rfl⟩;rw[hcd]at c0 c1 hd;simp only at c0 c1 hd;have HD:=M0 (gB HO▸hd);obtain⟨s,hS⟩:∃s:ByteArray,s=⟨od.toArray⟩:=⟨_,rfl⟩;rw[<-hS]at c1;have HS:=M0 hS;clear hcd hd hS
  by_cases e:oc=c
  ·have q:(((oc.toNat:Nat):Int)==((c.toNat:Nat):Int))=true:=by rw[toNat_eq];simpa using e
   have HE:Hid (Y2 os c=od):=M0 (by rw[gB HD,bp0 e]);clear e HD HO;go_wp2;go_ret;refine⟨?_,HW.alloc hwz _⟩;rw[gB HE,<-gB HS];rfl
  have q:(((oc.toNat:Nat):Int)==((c.toNat:Nat):Int))=false:=by rw[toNat_eq];simpa using e
  have HE:Hid (Y2 os c=Y2 (os.drop (k+1)) c):=M0 (by rw[gB HD,bo4 e]);clear e HD HO;go_wp2;go_roundw
  case rel=>exact⟨k+1,by omega,by go_num,HE,M0 (HW.alloc hwz _)⟩
  simp[intOf];omega
 have e:k=os.length:=by omega
 have HE:Hid (Y2 os c=[]):=M0 (by rw[gB HO,e,bD9];rfl);clear HO e;go_wp2;go_ret;refine⟨?_,HW⟩;rw[gB HE];rfl
end Ho
namespace Ho
open Bs
theorem byte_back(x:Int)(h:0<=x/\x<256):((UInt8.ofNat x.toNat).toNat:Int)=x:=by
 simp;omega
def Xm(n:Int):List UInt8:=[UInt8.ofNat (n/16777216).toNat,UInt8.ofNat (n/65536%256).toNat,UInt8.ofNat (n/256%256).toNat,UInt8.ofNat (n%256).toNat]
theorem aB3(n:Int)(hn:0<=n/\n<=4294967295)(w:fV):f_ Vh 69 #[.int .u32 n] w fun ee w'=>ee=.returned (.string ⟨(Xm n).toArray⟩)/\gm w.heap.size w w':=by
 have hcv:∀(a b c d:Int),(0<=a/\a<256)->(0<=b/\b<256)->(0<=c/\c<256)->(0<=d/\d<256)->(convert 73 9 (.slice (some (a_ w.heap.size 0)) 4 4)).run Vh (w.alloc (.cells #[.int .u8 a,.int .u8 b,.int .u8 c,.int .u8 d] 5))=.ok (.string ⟨#[UInt8.ofNat a.toNat,UInt8.ofNat b.toNat,UInt8.ofNat c.toNat,UInt8.ofNat d.toNat]⟩) (w.alloc (.cells #[.int .u8 a,.int .u8 b,.int .u8 c,.int .u8 d] 5)):=fun a b c d ha hb hc hd=>by
  have q:=bv8 (P:=Vh) (w.alloc (.cells #[.int .u8 a,.int .u8 b,.int .u8 c,.int .u8 d] 5)) 73 9 5 (a_ w.heap.size 0) 4 [UInt8.ofNat a.toNat,UInt8.ofNat b.toNat,UInt8.ofNat c.toNat,UInt8.ofNat d.toNat] br3 bv4 bs8 (fun j hj=>by
   have r:=fun j=>bn0 _ _ j _ _ _ (bn3 w (.cells #[.int .u8 a,.int .u8 b,.int .u8 c,.int .u8 d] 5))
   have hj4:j<4:=hj
   match j,hj4 with
   |0,_=>rw[show(((a_ w.heap.size 0):Addr).add 0)=(a_ w.heap.size 0)from rfl,r 0];exact by5 (fun z=>some (Value.int .u8 z)) (byte_back a ha).symm
   |1,_=>rw[show(((a_ w.heap.size 0):Addr).add 1)=(a_ w.heap.size 1)from rfl,r 1];exact by5 (fun z=>some (Value.int .u8 z)) (byte_back b hb).symm
   |2,_=>rw[show(((a_ w.heap.size 0):Addr).add 2)=(a_ w.heap.size 2)from rfl,r 2];exact by5 (fun z=>some (Value.int .u8 z)) (byte_back c hc).symm
   |3,_=>rw[show(((a_ w.heap.size 0):Addr).add 3)=(a_ w.heap.size 3)from rfl,r 3];exact by5 (fun z=>some (Value.int .u8 z)) (byte_back d hd).symm)
  exact q
 have hq:=hcv (n/16777216) (n/65536%256) (n/256%256) (n%256) (by omega) (by omega) (by omega) (by omega);clear hcv;go_enter func69,ntmps69;go_wp2;go_ret;exact⟨rfl,(bn9 _ _).alloc (bn7 _) _⟩
end Ho
namespace Ho
open Bs Js
variable{w w' u u':fV} {H:Nat} {h h':Host}
structure Dx (w u:fV) (H:Nat) (h:Host) (d:Nat) (cs:Array Value) (v:Value) (os:Dh.gU):Prop where
 at':At u H h
 cd:NA u
 tn:PU w u H
 b1:u.heap[d]?=some (.cells cs 132 (0,0))
 hi:w.heap.size<=d
 own:u.ownsRow w.heap.size 138 2 v os.length (Dh.gT os)
variable{d:Nat} {cs:Array Value} {v:Value} {os:Dh.gU}
theorem Dx.below(b:Dx w u H h d cs v os)(hb:gm u.heap.size u u'):Dx w u' H h d cs v os:=
 ⟨b.at'.below hb,b.cd.below hb,Sd b.tn hb,(hb.block _ (gG b.b1)).trans b.b1,b.hi,iN b.own (fun j hj=>hb.block j (b.own.lt j hj).2)⟩
theorem Dx.host(b:Dx w u H h d cs v os)(hH:H<w.heap.size)(h0:(0:Nat)≠H)(h1:(1:Nat)≠H)(k:At u' H h')(tn:PU u u' H):Dx w u' H h' d cs v os:=
 ⟨k,b.cd.of (tn.block _ b.cd.lt.1 h0) (tn.block _ b.cd.lt.2 h1),⟨tn.os.trans b.tn.os,tn.tape.trans b.tn.tape,tn.output.trans b.tn.output,bo6 b.tn.size tn.size,fun j hj hn=>(tn.block j (bo9 hj b.tn.size) hn).trans (b.tn.block j hj hn)⟩,(tn.block _ (gG b.b1) (by have:=b.hi;omega)).trans b.b1,b.hi,iN b.own (fun j hj=>tn.block j (b.own.lt j hj).2 (by have:=(b.own.lt j hj).1;omega))⟩
end Ho
namespace Ho
open Bs Js
variable{w w' u u':fV} {H:Nat} {h h':Host}
theorem ax9(kb:UInt8)(sv le:List UInt8)(j:Nat):(#[.int .u8 53,.string ⟨#[kb]⟩,.int .u8 54,.string ⟨sv.toArray⟩,.int .u8 51,.string ⟨le.toArray⟩,.int .u8 1,.string ⟨#[255,255,255,0]⟩,.int .u8 3,.string ⟨sv.toArray⟩]:Array Value)[j]?=(Dh.gT (Ws kb sv le))[j]?:=by
 rw[<-br1];rfl
theorem bj6{b:Nat}{V W:fV}(h:gm b V W)(hb:b<=W.heap.size)(v:Value)(t:TypeId):gm b V (W.alloc (.cells #[v] t))/\(W.alloc (.cells #[v] t)).cell? (a_ W.heap.size 0)=some v:=
 ⟨h.alloc hb _,bn0 _ _ 0 _ _ _ (bn3 _ _)⟩
theorem VT{P:Program}{ops:Array Oper}{Q:Exit->Act->fV->Prop}{md:Region.Mode}{S:fV->Prop}{fuel:Nat}{listed:Array Bool}{a:Act}{W:fV}{g:Nat}{v:Value}(hg:W.cell? (a_ g 0)=some v)(hS:S W)
  (h:S W/\W.cell? (a_ g 0)=some v->wpAnyH P md ops Q (fun u=>S u/\u.cell? (a_ g 0)=some v) fuel listed a W):wpAnyH P md ops Q S fuel listed a W:=
 Wh (S':=fun u=>S u/\u.cell? (a_ g 0)=some v) (fun _ h=>h.1) _ _ _ _ (h ⟨hS,hg⟩)
theorem av8(k:At w H h)(c:NA w)(hH0:(0:Nat)≠H)(hH1:(1:Nat)≠H)(f t:Int)(L:ByteArray)(gF cl yo ne:Int)(os:Dh.gU)(kb q:UInt8)(hq:Y2 os 53=[q])(hqk:q=1/\kb=2∨q=3/\kb=5)(hol:os.length<=1000)(hx:0<=gF/\gF<=4294967295)(hn:0<=h.next/\h.next<=4294967295)(hle:0<=h.gK/\h.gK<=4294967295)
  (hR:∀u,f_ Vh 66 #[.string L] u fun ee w'=>Lp.IE os.length (Dh.gT os) u (fun sa sc=>.tuple #[.agg #[.bool false,.int .u32 gF,.int .u32 cl,.int .u32 yo,.int .u32 ne,.int .u8 2,.int .u8 0,.int .u8 0,.int .u8 0,.int .u8 0,.int .u8 42,.slice sa os.length sc],.int .i64 0]) ee w'):
  f_ Vh 40 #[p_ H,.agg #[.int .u16 f,.int .u16 t,.string L]] w fun ee w'=>∃g,ee=.returned (.tuple #[.slice (some (a_ g 0)) 1 1,.bool true])/\w'.ownsRow w.heap.size 9 1 (.slice (some (a_ g 0)) 1 1) 1 [.string (h.frame 67 68 (Dh.nH true gF 0 167772215 h.next [2,0,0,0,0,42] (Ws kb (Xm 167772161) (Xm h.gK))) 167772161 167772215)]/\At w' H h.Ww/\PU w w' H:=by
 have hlt:=gG k;have HR:=M0 hR;have HK:=M0 k;have HC:=M0 c;clear hR k c;go_enter func40,ntmps40;go_wp2_with fail;refine(HR _).mono ?_;rintro ee u1 ⟨sa,sc,rfl,o1,hb1⟩;obtain⟨cs,hcs⟩:∃cs:Array Value,cs=#[.bool false,.int .u32 gF,.int .u32 cl,.int .u32 yo,.int .u32 ne,.int .u8 2,.int .u8 0,.int .u8 0,.int .u8 0,.int .u8 0,.int .u8 42,.slice sa os.length sc]:=⟨_,rfl⟩;obtain⟨X,hX⟩:=ex_ (u1.alloc (.cells #[.bool false,.int .u32 gF,.int .u32 cl,.int .u32 yo,.int .u32 ne,.int .u8 2,.int .u8 0,.int .u8 0,.int .u8 0,.int .u8 0,.int .u8 42,.slice sa os.length sc] 132));obtain⟨d,hd⟩:=ex_ u1.heap.size;have HX:Hid (Dx w X H h d cs (.slice sa os.length sc) os):=M0 (by
  have hb0:gm w.heap.size w (w.alloc (.cells #[.int .u16 f,.int .u16 t,.string L] 69)):=(bn9 _ _).alloc (bn7 _) _
  have hb2:gm u1.heap.size u1 X:=by rw[hX];exact(bn9 _ _).alloc (bn7 _) _
  have hb3:=hb0.trans (hb1.mono hb0.size)
  have hb4:=hb3.trans (hb2.mono hb3.size)
  refine⟨HK.below hb4,HC.below hb4,⟨hb4.os,hb4.tape,hb4.output,hb4.size,fun j hj _=>hb4.block j hj⟩,by rw[hX,hd,hcs];exact bn3 u1 _,by rw[hd];exact hb3.size,?_⟩
  have o2:=iN o1 (w':=X) (fun j hj=>hb2.block j (o1.lt j hj).2)
  exact⟨o2.1,o2.2.imp id (fun⟨g,cap,cur,e1,e2,e3⟩=>⟨g,cap,cur,e1,bo6 hb0.size e2,e3⟩)⟩)
 have HC1:Hid (NA u1):=M0 (by
  have hb0:gm w.heap.size w (w.alloc (.cells #[.int .u16 f,.int .u16 t,.string L] 69)):=(bn9 _ _).alloc (bn7 _) _
  exact HC.below (hb0.trans (hb1.mono hb0.size)))
 obtain⟨g0,g1,g2,g3,g4,g5,_⟩:=gB HC1;have hc0:=HC1.lt.1;have hc1:(0:Nat)≠u1.heap.size:=bo5 hc0;have hmq:∀u,(Op.equalIn 10000 30 (.agg #[.int .u8 2,.int .u8 0,.int .u8 0,.int .u8 0,.int .u8 0,.int .u8 42]) (.agg #[.int .u8 2,.int .u8 0,.int .u8 0,.int .u8 0,.int .u8 0,.int .u8 42])).run Vh u=.ok true u:=fun u=>Sq.Yx 9998 2 0 0 0 0 42 u;have HOP:Hid (∀u,Dx w u H h d cs (.slice sa os.length sc) os->f_ Vh 67 #[.slice sa os.length sc,.int .u8 53] u fun e w'=>e=.returned (.string ⟨#[q]⟩)/\gm u.heap.size u w'):=M0 (fun u hu=>by
  have z:=Ii sa sc os 53 u (xw hu.own) hol
  rw[hq]at z
  exact z)
 clear o1 hb1 HK HC HR HC1;have HBD:Hid ((q==3)=decide (kb=5)):=M0 (by rcases hqk with⟨rfl,rfl⟩|⟨rfl,rfl⟩<;>decide);obtain⟨bq,hbq⟩:∃bq:Bool,bq=(q==3):=⟨_,rfl⟩;have hcmp:((⟨#[q]⟩:ByteArray).toList==(⟨#[3]⟩:ByteArray).toList)=bq:=by
  rw[hbq,bq0,bq0];simp
 obtain⟨kI,hkI⟩:∃kI:Int,kI=(kb.toNat:Int):=⟨_,rfl⟩;have HKI:=M0 hkI;have HBQ:Hid (bq=true/\kI=5∨bq=false/\kI=2):=M0 (by
  rcases hqk with⟨rfl,rfl⟩|⟨rfl,rfl⟩
  ·exact bo3 ⟨by rw[hbq];decide,by rw[hkI];decide⟩
  exact bo1 ⟨by rw[hbq];decide,by rw[hkI];decide⟩)
 have HD:=M0 hd;have HBQ0:=M0 hbq;clear hbq hkI hd;go_upto_region 5 with fail;rw[<-hX,<-gB HD];clear g0 g1 g2 g3 g4 g5 hc0 hc1 hX hmq;have e6:X.cell? (a_ d 11)=some (.slice sa os.length sc):=by rw[bn0 X _ 11 _ _ _ HX.b1,hcs];rfl
 go_cut [32] (fun v wc=>v=.bool bq/\Hid (Dx w wc H h d cs (.slice sa os.length sc) os));case first=>
  go_wp2_with fail;refine on_ (HOP _ HX) fun u2 hb2=>?_;have HX2:=M0 (HX.below hb2);clear hb2 HX e6;go_wp2;go_meet;exact⟨by rw[gB HBQ0],HX2⟩
 rename fV=>wc;obtain⟨rfl,HX2⟩:=hcut;clear HX e6;go_upto_if 32 with fail;go_cut [8] (fun v wd=>v=.int .u8 kI/\wd=wc);case first=>
  rcases gB HBQ with⟨rfl,e⟩|⟨rfl,e⟩
  ·go_wp2
   go_meet;exact⟨by rw[e],rfl⟩
  go_wp2;go_meet;exact⟨by rw[e],rfl⟩
 obtain⟨rfl,rfl⟩:=hcut;obtain⟨aB,haB⟩:∃aB:ByteArray,aB=Dh.nH true gF 0 167772215 h.next [2,0,0,0,0,42] (Ws kb (Xm 167772161) (Xm h.gK)):=⟨_,rfl⟩;go_upto_region 7 with fail;go_cut [9] (fun v wd=>v=.string aB/\Hid (Dx w wd H h d cs (.slice sa os.length sc) os));case first=>
  obtain⟨F4,hF4⟩:∃F4:Int->ByteArray,F4=fun x=>⟨(Xm x).toArray⟩:=⟨_,rfl⟩;have HF4:Hid (∀(u:fV) (x:Int),0<=x/\x<=4294967295->f_ Vh 69 #[.int .u32 x] u fun e w'=>e=.returned (.string (F4 x))/\gm u.heap.size u w'):=M0 (fun u x hx=>by rw[hF4];exact aB3 x hx u);have HV:=HX2;obtain⟨V,hV⟩:=ex_ wc;rw[<-hV]at HX2 ⊢;clear hV HV;have HCE:Hid (∀u,gm V.heap.size V u->u.cell? (a_ d 1)=some (.int .u32 gF)/\u.cell? (a_ H 2)=some (.int .u32 h.next)/\u.cell? (a_ H 1)=some (.int .u32 h.gK)/\u.cell? (a_ 0 0)=some (.int .u8 2)/\u.cell? (a_ 0 1)=some (.int .u8 0)/\u.cell? (a_ 0 2)=some (.int .u8 0)/\u.cell? (a_ 0 3)=some (.int .u8 0)/\u.cell? (a_ 0 4)=some (.int .u8 0)/\u.cell? (a_ 0 5)=some (.int .u8 42)):=M0 (fun u hu=>by
   have b:=HX2.below hu
   obtain⟨g0,g1,g2,g3,g4,g5,_⟩:=b.cd
   exact⟨by rw[bn0 u _ 1 _ _ _ b.b1,hcs];rfl,b.at'.cell 2,b.at'.cell 1,g0,g1,g2,g3,g4,g5⟩)
  have HCV:Hid (∀(u:fV) (g:Nat),u.cell? (a_ g 0)=some (.int .u8 kI)->(convert 73 9 (.slice (some (a_ g 0)) 1 1)).run Vh u=.ok (.string ⟨#[kb]⟩) u):=M0 (fun u g hg=>by
   have z:=Zf kb.toNat kb.toNat_lt u g (by rw[hg,gB HKI])
   rw[UInt8.ofNat_toNat]at z
   exact z)
  obtain⟨ek,hek⟩:∃ek:Int,ek=Dh.r_ true gF 0 167772215 h.next [2,0,0,0,0,42] (Ws kb (Xm 167772161) (Xm h.gK)):=⟨_,rfl⟩;have HWD:Hid (∀(u:fV) (g:Nat),u.heap[g]?=some (.cells #[.int .u8 53,.string ⟨#[kb]⟩,.int .u8 54,.string (F4 167772161),.int .u8 51,.string (F4 h.gK),.int .u8 1,.string ⟨#[255,255,255,0]⟩,.int .u8 3,.string (F4 167772161)] 138 (0,0))->f_ Vh 68 #[.agg #[.bool true,.int .u32 gF,.int .u32 0,.int .u32 167772215,.int .u32 h.next,.int .u8 2,.int .u8 0,.int .u8 0,.int .u8 0,.int .u8 0,.int .u8 42,.slice (some (a_ g 0)) 5 5]] u fun e w'=>e=.returned (.tuple #[.string aB,.int .i64 ek])/\gm u.heap.size u w'):=M0 (fun u g hg=>by
   rw[haB,hek]
   refine Dh.Wj true gF 0 167772215 h.next 2 0 0 0 0 42 (some (a_ g 0)) 5 (Ws kb (Xm 167772161) (Xm h.gK)) u hx (by decide) (by decide) hn ?_ ?_
   ·refine Dh.At.zl (fun j x hj=> ?_)
    have hadd:((a_ g 0):Addr).add j=(a_ g j):=jB g j
    rw[hadd,bn0 u _ j _ _ _ hg,<-hj,hF4]
    exact ax9 kb _ _ j
   simp[Ws,Dh.heavy,Xm])
  clear hF4 hek haB hcmp;refine wp_region_held_drew (S:=fun u=>u.cell? (a_ d 1)=some (.int .u32 gF)/\u.cell? (a_ H 2)=some (.int .u32 h.next)/\u.cell? (a_ H 1)=some (.int .u32 h.gK)/\u.cell? (a_ 0 0)=some (.int .u8 2)/\u.cell? (a_ 0 1)=some (.int .u8 0)/\u.cell? (a_ 0 2)=some (.int .u8 0)/\u.cell? (a_ 0 3)=some (.int .u8 0)/\u.cell? (a_ 0 4)=some (.int .u8 0)/\u.cell? (a_ 0 5)=some (.int .u8 42)) (by kernel_rfl) (HCE _ ((bn9 _ _).drew)) (fun hHeld=> ?_);have HBe:Hid (gm V.heap.size V V.drew):=M0 ((bn9 _ _).drew);generalize V.drew=V1 at*;refine tkH_ (i:=0) (v:=_) rfl (by kernel_rfl) (fun _ _ _ h=>h) (bo1 ⟨by rfl,fun wz hSz=>by go_simp<;>with_reducible rfl⟩) hHeld ?_;try simp only[Act.put,bn4,bn2,bn1,bm7,bm8,bm9]
  refine tkH_ (i:=1) (v:=_) rfl (by kernel_rfl) (fun _ _ _ h=>h) (bo1 ⟨by rfl,fun wz hSz=>by go_simp<;>with_reducible rfl⟩) hHeld ?_;try simp only[Act.put,bn4,bn2,bn1,bm7,bm8,bm9]
  refine tkH_ (i:=2) (v:=_) rfl (by kernel_rfl) (fun _ _ _ h=>h) (bo1 ⟨by rfl,fun wz hSz=>by go_simp<;>with_reducible rfl⟩) hHeld ?_;try simp only[Act.put,bn4,bn2,bn1,bm7,bm8,bm9]
  refine tkH_ (i:=3) (v:=_) rfl (by kernel_rfl) (fun _ _ _ h=>h) (bo1 ⟨by rfl,fun wz hSz=>by go_simp<;>with_reducible rfl⟩) hHeld ?_;try simp only[Act.put,bn4,bn2,bn1,bm7,bm8,bm9]
  refine tkH_ (i:=4) (v:=_) rfl (by kernel_rfl) (fun _ _ _ h=>h) (bo1 ⟨by rfl,fun wz hSz=>by go_simp<;>with_reducible rfl⟩) hHeld ?_;try simp only[Act.put,bn4,bn2,bn1,bm7,bm8,bm9]
  refine tkH_ (i:=5) (v:=_) rfl (by kernel_rfl) (fun _ _ _ h=>h) (bo1 ⟨by rfl,fun wz hSz=>by go_simp<;>with_reducible rfl⟩) hHeld ?_;try simp only[Act.put,bn4,bn2,bn1,bm7,bm8,bm9]
  refine tkH_ (i:=6) (v:=_) rfl (by kernel_rfl) (fun _ _ _ h=>h) (bo1 ⟨by rfl,fun wz hSz=>by go_simp<;>with_reducible rfl⟩) hHeld ?_;try simp only[Act.put,bn4,bn2,bn1,bm7,bm8,bm9]
  refine tkH_ (i:=7) (v:=_) rfl (by kernel_rfl) (fun _ _ _ h=>h) (bo1 ⟨by rfl,fun wz hSz=>by go_simp<;>with_reducible rfl⟩) hHeld ?_;try simp only[Act.put,bn4,bn2,bn1,bm7,bm8,bm9]
  refine tkH_ (i:=13) (v:=_) rfl (by kernel_rfl) (fun _ _ _ h=>h) (bo1 ⟨by rfl,fun wz hSz=>by go_simp<;>with_reducible rfl⟩) hHeld ?_;try simp only[Act.put,bn4,bn2,bn1,bm7,bm8,bm9]
  refine tkH_ (i:=14) (v:=_) rfl (by kernel_rfl) (fun _ _ _ h=>h) (bo1 ⟨by rfl,fun wz hSz=>by go_simp<;>with_reducible rfl⟩) hHeld ?_;try simp only[Act.put,bn4,bn2,bn1,bm7,bm8,bm9]
  refine tkH_ (i:=15) (v:=_) rfl (by kernel_rfl) (fun _ _ _ h=>h) (bo1 ⟨by rfl,fun wz hSz=>by go_simp<;>with_reducible rfl⟩) hHeld ?_;try simp only[Act.put,bn4,bn2,bn1,bm7,bm8,bm9]
  refine tkH_ (i:=16) (v:=_) rfl (by kernel_rfl) (fun _ _ _ h=>h) (bo1 ⟨by rfl,fun wz hSz=>by go_simp<;>with_reducible rfl⟩) hHeld ?_;try simp only[Act.put,bn4,bn2,bn1,bm7,bm8,bm9]
  refine tkH_ (i:=19) (v:=_) rfl (by kernel_rfl) (fun _ _ _ h=>h) (bo1 ⟨by rfl,fun wz hSz=>by go_simp<;>with_reducible rfl⟩) hHeld ?_;try simp only[Act.put,bn4,bn2,bn1,bm7,bm8,bm9]
  refine wpAnyH_ready (rs:=[8,11]) (by kernel_rfl) (by simp) ?_;refine AllReadyH.cons rfl (fun K hK=> ?a0) (AllReadyH.cons rfl (fun K hK=> ?b0) AllReadyH.nil);case' b0=>
   go_simp
   refine on_ (HF4 _ _ (by decide)) fun u2 hb2=>?_;have HBe:=M0 (HBe.trans (hb2.mono HBe.size));clear hb2 hHeld;go_wp2_with fail;refine hK.out _ _ (HCE _ HBe) (fun hHeld=> ?_);clear hK K;try simp only[Act.put,bn4,bn2,bn1,bm7,bm8,bm9]
   refine tkH_ (i:=12) (v:=_) rfl (by kernel_rfl) (fun _ _ _ h=>h) (bo1 ⟨by rfl,fun wz hSz=>by go_simp<;>with_reducible rfl⟩) hHeld ?_;try simp only[Act.put,bn4,bn2,bn1,bm7,bm8,bm9]
   refine wpAnyH_ready (rs:=[8,17]) (by kernel_rfl) (by simp) ?_;refine AllReadyH.cons rfl (fun K hK=> ?a1) (AllReadyH.cons rfl (fun K hK=> ?b1) AllReadyH.nil)
  case' b1=>
   go_simp
   refine on_ (HF4 _ _ hle) fun u2 hb2=>?_;have HBe:=M0 (HBe.trans (hb2.mono HBe.size));clear hb2 hHeld;go_wp2_with fail;refine hK.out _ _ (HCE _ HBe) (fun hHeld=> ?_);clear hK K;try simp only[Act.put,bn4,bn2,bn1,bm7,bm8,bm9]
   refine tkH_ (i:=18) (v:=_) rfl (by kernel_rfl) (fun _ _ _ h=>h) (bo1 ⟨by rfl,fun wz hSz=>by go_simp<;>with_reducible rfl⟩) hHeld ?_;try simp only[Act.put,bn4,bn2,bn1,bm7,bm8,bm9]
   refine wpAnyH_ready (rs:=[8,20]) (by kernel_rfl) (by simp) ?_;refine AllReadyH.cons rfl (fun K hK=> ?a2) (AllReadyH.cons rfl (fun K hK=> ?b2) AllReadyH.nil)
  case' b2=>
   go_simp
   refine on_ (HF4 _ _ (by decide)) fun u2 hb2=>?_;have HBe:=M0 (HBe.trans (hb2.mono HBe.size));clear hb2 hHeld;go_wp2_with fail;refine hK.out _ _ (HCE _ HBe) (fun hHeld=> ?_);clear hK K;try simp only[Act.put,bn4,bn2,bn1,bm7,bm8,bm9]
   refine tkH_ (i:=21) (v:=_) rfl (by kernel_rfl) (fun _ _ _ h=>h) (bo1 ⟨by rfl,fun wz hSz=>by go_simp<;>with_reducible rfl⟩) hHeld ?_;try simp only[Act.put,bn4,bn2,bn1,bm7,bm8,bm9]
   refine wpAnyH_ready (rs:=[8]) (by kernel_rfl) (by simp) ?_;refine AllReadyH.cons rfl (fun K hK=> ?a3) AllReadyH.nil
  all_goals
   go_simp
   obtain⟨hb8,hg8⟩:=bj6 HBe HBe.size (.int .u8 kI) 5;have HBe:=M0 hb8;have HG:=M0 hg8;clear hHeld hb8 hg8;refine hK.out _ _ (HCE _ HBe) (fun hHeld=> ?_);clear hK K;try simp only[Act.put,bn4,bn2,bn1,bm7,bm8,bm9]
   refine VT HG hHeld (fun hHeld=> ?_);refine tkH_ (i:=9) (v:=_) rfl (by kernel_rfl) (fun _ _ _ h=>h) (bo1 ⟨by rfl,fun wz hSz=>by have hcv:=HCV wz _ hSz.2;go_simp<;>with_reducible rfl⟩) hHeld ?_;try simp only[Act.put,bn4,bn2,bn1,bm7,bm8,bm9]
   refine tkH_ (i:=10) (v:=_) rfl (by kernel_rfl) (fun _ _ _ h=>h) (bo1 ⟨by rfl,fun wz hSz=>by go_simp<;>with_reducible rfl⟩) hHeld ?_;try simp only[Act.put,bn4,bn2,bn1,bm7,bm8,bm9]
  case' a0=>
   refine wpAnyH_ready (rs:=[11]) (by kernel_rfl) (by simp) ?_;refine AllReadyH.cons rfl (fun K hK=> ?_) AllReadyH.nil;go_simp
   refine on_ (HF4 _ _ (by decide)) fun u2 hb2=>?_;have HBe:=M0 (HBe.trans (hb2.mono HBe.size));have HG:=M0 (cell_below HG hb2);clear hb2 hHeld;go_wp2_with fail;refine hK.out _ _ (⟨HCE _ HBe,HG⟩) (fun hHeld=> ?_);clear hK K;try simp only[Act.put,bn4,bn2,bn1,bm7,bm8,bm9]
   refine tkH_ (i:=12) (v:=_) rfl (by kernel_rfl) (fun _ _ _ h=>h) (bo1 ⟨by rfl,fun wz hSz=>by go_simp<;>with_reducible rfl⟩) hHeld ?_;try simp only[Act.put,bn4,bn2,bn1,bm7,bm8,bm9]
  case' a0|a1=>
   refine wpAnyH_ready (rs:=[17]) (by kernel_rfl) (by simp) ?_;refine AllReadyH.cons rfl (fun K hK=> ?_) AllReadyH.nil;go_simp
   refine on_ (HF4 _ _ hle) fun u2 hb2=>?_;have HBe:=M0 (HBe.trans (hb2.mono HBe.size));have HG:=M0 (cell_below HG hb2);clear hb2 hHeld;go_wp2_with fail;refine hK.out _ _ (⟨HCE _ HBe,HG⟩) (fun hHeld=> ?_);clear hK K;try simp only[Act.put,bn4,bn2,bn1,bm7,bm8,bm9]
   refine tkH_ (i:=18) (v:=_) rfl (by kernel_rfl) (fun _ _ _ h=>h) (bo1 ⟨by rfl,fun wz hSz=>by go_simp<;>with_reducible rfl⟩) hHeld ?_;try simp only[Act.put,bn4,bn2,bn1,bm7,bm8,bm9]
  case' a0|a1|a2=>
   refine wpAnyH_ready (rs:=[20]) (by kernel_rfl) (by simp) ?_;refine AllReadyH.cons rfl (fun K hK=> ?_) AllReadyH.nil;go_simp
   refine on_ (HF4 _ _ (by decide)) fun u2 hb2=>?_;have HBe:=M0 (HBe.trans (hb2.mono HBe.size));have HG:=M0 (cell_below HG hb2);clear hb2 hHeld;go_wp2_with fail;refine hK.out _ _ (⟨HCE _ HBe,HG⟩) (fun hHeld=> ?_);clear hK K;try simp only[Act.put,bn4,bn2,bn1,bm7,bm8,bm9]
   refine tkH_ (i:=21) (v:=_) rfl (by kernel_rfl) (fun _ _ _ h=>h) (bo1 ⟨by rfl,fun wz hSz=>by go_simp<;>with_reducible rfl⟩) hHeld ?_;try simp only[Act.put,bn4,bn2,bn1,bm7,bm8,bm9]
  all_goals
   refine wpAnyH_ready (rs:=[22]) (by kernel_rfl) (by simp) ?_;refine AllReadyH.cons rfl (fun K hK=> ?_) AllReadyH.nil;go_simp
   have HE:=M0 (HBe.alloc HBe.size (.cells #[.int .u8 53,.string ⟨#[kb]⟩,.int .u8 54,.string (F4 167772161),.int .u8 51,.string (F4 h.gK),.int .u8 1,.string ⟨#[255,255,255,0]⟩,.int .u8 3,.string (F4 167772161)] 138));have HG:=M0 (cell_below HG ((bn9 _ _).alloc (bn7 _) (.cells #[.int .u8 53,.string ⟨#[kb]⟩,.int .u8 54,.string (F4 167772161),.int .u8 51,.string (F4 h.gK),.int .u8 1,.string ⟨#[255,255,255,0]⟩,.int .u8 3,.string (F4 167772161)] 138)));clear hHeld;refine hK.out _ _ (⟨HCE _ HE,HG⟩) (fun hHeld=> ?_);clear hK K;try simp only[Act.put,bn4,bn2,bn1,bm7,bm8,bm9]
   refine tkH_ (i:=23) (v:=_) rfl (by kernel_rfl) (fun _ _ _ h=>h) (bo1 ⟨by rfl,fun wz hSz=>by go_simp<;>with_reducible rfl⟩) hHeld ?_;try simp only[Act.put,bn4,bn2,bn1,bm7,bm8,bm9]
   refine wpAnyH_ready (rs:=[24]) (by kernel_rfl) (by simp) ?_;refine AllReadyH.cons rfl (fun K hK=> ?_) AllReadyH.nil;go_simp
   refine on_ (HWD _ _ (by first|exact bn3 _ _|exact jq _ _ _)) fun u9 hb9=>?_;have HF:=M0 (HE.trans (hb9.mono HE.size));have HG:=M0 (cell_below HG hb9);clear hb9 hHeld;go_wp2_with fail;refine hK.out _ _ (⟨HCE _ HF,HG⟩) (fun hHeld=> ?_);clear hK K;try simp only[Act.put,bn4,bn2,bn1,bm7,bm8,bm9]
   refine tkH_ (i:=25) (v:=_) rfl (by kernel_rfl) (fun _ _ _ h=>h) (bo1 ⟨by rfl,fun wz hSz=>by go_simp<;>with_reducible rfl⟩) hHeld ?_;try simp only[Act.put,bn4,bn2,bn1,bm7,bm8,bm9]
   refine tkH_ (i:=26) (v:=_) rfl (by kernel_rfl) (fun _ _ _ h=>h) (bo1 ⟨by rfl,fun wz hSz=>by go_simp<;>with_reducible rfl⟩) hHeld ?_;try simp only[Act.put,bn4,bn2,bn1,bm7,bm8,bm9]
   refine tkH_ (i:=27) (v:=_) rfl (by kernel_rfl) (fun _ _ _ h=>h) (bo1 ⟨by rfl,fun wz hSz=>by go_simp<;>with_reducible rfl⟩) hHeld ?_;try simp only[Act.put,bn4,bn2,bn1,bm7,bm8,bm9]
   refine tkH_ (i:=28) (v:=_) rfl (by kernel_rfl) (fun _ _ _ h=>h) (bo1 ⟨by rfl,fun wz hSz=>by go_simp<;>with_reducible rfl⟩) hHeld ?_;try simp only[Act.put,bn4,bn2,bn1,bm7,bm8,bm9]
   refine tkH_ (i:=29) (v:=(.int .i64 ek)) rfl (by kernel_rfl) (fun _ _ _ h=>h) (bo1 ⟨by rfl,?_⟩) hHeld ?_
   ·(intro wz hSz;go_simp)
   try simp only[Act.put,bn4,bn2,bn1,bm7,bm8,bm9]
   refine bw0 (by kernel_rfl) ?_ _;go_wp2;go_meet;exact⟨rfl,M0 (HX2.below HF)⟩
 rename fV=>wd;obtain⟨rfl,HX3⟩:=hcut;clear HX2;obtain⟨fr,hfr⟩:=ex_ (h.frame 67 68 aB 167772161 167772215);have HWR:Hid (∀u,Dx w u H h d cs (.slice sa os.length sc) os->f_ Vh 70 #[p_ H,.agg #[.int .u16 67,.int .u16 68,.string aB],.int .u32 167772161,.int .u32 167772215] u fun ee w'=>ee=.returned (.string fr)/\Dx w w' H h.Ww d cs (.slice sa os.length sc) os):=M0 (fun u hu=>by
  refine(Zj hu.at' hu.cd hH0 hH1 67 68 167772161 167772215 aB (by decide) (by decide) (by decide) (by decide) ?_).mono ?_
  ·rw[haB]
   exact bo6 (ad6 _ _ _ _ _ _ _) (by decide)
  rintro ee w' ⟨rfl,k6,t6⟩
  exact⟨by rw[hfr],hu.host hlt hH0 hH1 k6 t6⟩)
 have HOQ:Hid (∀u,(∃h',Dx w u H h' d cs (.slice sa os.length sc) os)->f_ Vh 67 #[.slice sa os.length sc,.int .u8 53] u fun e w'=>e=.returned (.string ⟨#[q]⟩)/\gm u.heap.size u w'):=M0 (fun u ⟨h',hu⟩=>by
  have z:=Ii sa sc os 53 u (xw hu.own) hol
  rw[hq]at z
  exact z)
 have HCE:Hid (∀u,(∃h',Dx w u H h' d cs (.slice sa os.length sc) os)->u.cell? (a_ d 11)=some (.slice sa os.length sc)):=M0 (fun u ⟨h',hu⟩=>by rw[bn0 u _ 11 _ _ _ hu.b1,hcs];rfl);have HFR:=M0 hfr;have HAB:=M0 haB;have HV:Hid (Dx w wd H h d cs (.slice sa os.length sc) os):=HX3;have HK5:Hid (kb=5->(kI==5)=true):=M0 (fun e=>by rw[gB HKI,e];rfl);clear hfr haB hq hcmp HBD HBQ0 HOP;go_wp2_with fail
 rcases hqk with⟨rfl,rfl⟩|⟨rfl,rfl⟩
 all_goals
  try have hk5:=HK5 rfl
  refine wp_region_held_drew (S:=fun u=>u.cell? (a_ d 11)=some (.slice sa os.length sc)) (by kernel_rfl) (HCE _ ⟨_,HV.below ((bn9 _ _).drew)⟩) (fun hHeld=> ?_);refine tkH_ (i:=0) (v:=_) rfl (by kernel_rfl) (fun _ _ _ h=>h) (bo1 ⟨by rfl,fun wz hSz=>by go_simp<;>with_reducible rfl⟩) hHeld ?_;try simp only[Act.put,bn4,bn2,bn1,bm7,bm8,bm9]
  refine tkH_ (i:=1) (v:=_) rfl (by kernel_rfl) (fun _ _ _ h=>h) (bo1 ⟨by rfl,fun wz hSz=>by go_simp<;>with_reducible rfl⟩) hHeld ?_;try simp only[Act.put,bn4,bn2,bn1,bm7,bm8,bm9]
  refine tkH_ (i:=2) (v:=_) rfl (by kernel_rfl) (fun _ _ _ h=>h) (bo1 ⟨by rfl,fun wz hSz=>by go_simp<;>with_reducible rfl⟩) hHeld ?_;try simp only[Act.put,bn4,bn2,bn1,bm7,bm8,bm9]
  refine tkH_ (i:=5) (v:=_) rfl (by kernel_rfl) (fun _ _ _ h=>h) (bo1 ⟨by rfl,fun wz hSz=>by go_simp<;>with_reducible rfl⟩) hHeld ?_;try simp only[Act.put,bn4,bn2,bn1,bm7,bm8,bm9]
  refine tkH_ (i:=6) (v:=_) rfl (by kernel_rfl) (fun _ _ _ h=>h) (bo1 ⟨by rfl,fun wz hSz=>by go_simp<;>with_reducible rfl⟩) hHeld ?_;try simp only[Act.put,bn4,bn2,bn1,bm7,bm8,bm9]
  refine wpAnyH_ready (rs:=[3]) (by kernel_rfl) (by simp) ?_;refine AllReadyH.cons rfl (fun K hK=> ?_) AllReadyH.nil;go_simp
  refine on_ (HWR _ (HV.below ((bn9 _ _).drew))) fun u6 h6=>?_;have H6:=M0 h6;clear h6 hHeld;go_wp2_with fail;refine hK.out _ _ (HCE _ ⟨_,H6⟩) (fun hHeld=> ?_);clear hK K;try simp only[Act.put,bn4,bn2,bn1,bm7,bm8,bm9]
  refine wpAnyH_ready (rs:=[4,7]) (by kernel_rfl) (by simp) ?_;refine AllReadyH.cons rfl (fun K hK=> ?_) (AllReadyH.cons rfl (fun K hK=> ?_) AllReadyH.nil);case' refine_1=>
   go_simp
   have HO:=M0 (Dm _ fr H6.tn.size);have H6:=M0 (H6.below ((bn9 _ _).alloc (bn7 _) (.cells #[.string fr] 9)));clear hHeld;refine hK.out _ _ (HCE _ ⟨_,H6⟩) (fun hHeld=> ?_);clear hK K;try simp only[Act.put,bn4,bn2,bn1,bm7,bm8,bm9]
   refine wpAnyH_ready (rs:=[7]) (by kernel_rfl) (by simp) ?_;refine AllReadyH.cons rfl (fun K hK=> ?_) AllReadyH.nil;go_simp
   refine on_ (HOQ _ ⟨_,H6⟩) fun u7 hb7=>?_;have H6:=M0 (H6.below hb7);have HO:=M0 (iN HO (fun j hj=>hb7.block j (HO.lt j hj).2));clear hb7 hHeld;go_wp2_with fail;refine hK.out _ _ (HCE _ ⟨_,H6⟩) (fun hHeld=> ?_);clear hK K;try simp only[Act.put,bn4,bn2,bn1,bm7,bm8,bm9]
  case' refine_2=>
   go_simp
   refine on_ (HOQ _ ⟨_,H6⟩) fun u7 hb7=>?_;have H6:=M0 (H6.below hb7);clear hb7 hHeld;go_wp2_with fail;refine hK.out _ _ (HCE _ ⟨_,H6⟩) (fun hHeld=> ?_);clear hK K;try simp only[Act.put,bn4,bn2,bn1,bm7,bm8,bm9]
  all_goals
   refine tkH_ (i:=8) (v:=_) rfl (by kernel_rfl) (fun _ _ _ h=>h) (bo1 ⟨by rfl,fun wz hSz=>by go_simp<;>with_reducible rfl⟩) hHeld ?_;try simp only[Act.put,bn4,bn2,bn1,bm7,bm8,bm9]
   refine tkH_ (i:=9) (v:=_) rfl (by kernel_rfl) (fun _ _ _ h=>h) (bo1 ⟨by rfl,fun wz hSz=>by go_simp<;>with_reducible rfl⟩) hHeld ?_;try simp only[Act.put,bn4,bn2,bn1,bm7,bm8,bm9]
   first|(refine tkH_ (i:=10) (v:=_) rfl (by kernel_rfl) (fun _ _ _ h=>h) (bo1 ⟨by rfl,fun wz hSz=>by go_simp<;>with_reducible rfl⟩) hHeld ?_)|(refine tkH_ (i:=10) (v:=undef) rfl (by kernel_rfl) (fun _ _ _ h=>h) (bo3 ⟨by rfl,rfl⟩) hHeld ?_)
   try simp only[Act.put,bn4,bn2,bn1,bm7,bm8,bm9]
   first|(refine tkH_ (i:=11) (v:=_) rfl (by kernel_rfl) (fun _ _ _ h=>h) (bo1 ⟨by rfl,fun wz hSz=>by go_simp<;>with_reducible rfl⟩) hHeld ?_)|(refine tkH_ (i:=11) (v:=undef) rfl (by kernel_rfl) (fun _ _ _ h=>h) (bo3 ⟨by rfl,rfl⟩) hHeld ?_)
   try simp only[Act.put,bn4,bn2,bn1,bm7,bm8,bm9]
   refine tkH_ (i:=12) (v:=_) rfl (by kernel_rfl) (fun _ _ _ h=>h) (bo1 ⟨by rfl,fun wz hSz=>by go_simp<;>with_reducible rfl⟩) hHeld ?_;try simp only[Act.put,bn4,bn2,bn1,bm7,bm8,bm9]
  case' refine_2=>
   refine wpAnyH_ready (rs:=[4]) (by kernel_rfl) (by simp) ?_;refine AllReadyH.cons rfl (fun K hK=> ?_) AllReadyH.nil;go_simp
   have HO:=M0 (Dm _ fr H6.tn.size);have H6:=M0 (H6.below ((bn9 _ _).alloc (bn7 _) (.cells #[.string fr] 9)));clear hHeld;refine hK.out _ _ (HCE _ ⟨_,H6⟩) (fun hHeld=> ?_);clear hK K;try simp only[Act.put,bn4,bn2,bn1,bm7,bm8,bm9]
  all_goals
   refine tkH_ (i:=13) (v:=_) rfl (by kernel_rfl) (fun _ _ _ h=>h) (bo1 ⟨by rfl,fun wz hSz=>by go_simp<;>with_reducible rfl⟩) hHeld ?_;try simp only[Act.put,bn4,bn2,bn1,bm7,bm8,bm9]
   refine tkH_ (i:=14) (v:=(.bool true)) rfl (by kernel_rfl) (fun _ _ _ h=>h) (bo1 ⟨by rfl,?_⟩) hHeld ?_
   ·(intro wz hSz;go_simp)
   try simp only[Act.put,bn4,bn2,bn1,bm7,bm8,bm9]
   refine bw0 (by kernel_rfl) ?_ _;go_wp2;go_ret2;refine⟨_,rfl,?_,H6.at',H6.tn⟩;rw[<-gB HAB,<-gB HFR];exact HO
end Ho
namespace Ho
open Bs Js
variable{w0 w w':fV} {P:Nat→Prop} {Q B H G:Nat} {m m':Mc} {h h':Host} {K:Nat→Nat}
def nx(m:Mc)(s:ByteArray):Mc:=(m.put s).jP
theorem Zq{s:ByteArray}(hq:m.cq=[])(hr:0<m.rx):(m.put s).cq=[s]:=by
 unfold Mc.put;rw[hq,bp0 (by simpa using hr)];rfl
theorem Y9{s:ByteArray}(hq:m.cq=[])(hr:0<m.rx):nx m s={m with cf:=(m.cf+1)%m.rx}:=by
 cases m
 dsimp only at hq hr;subst hq;unfold nx Mc.put;rw[bp0 (by simpa using hr)];rfl
theorem Xo{s:ByteArray}:(m.put s).ended=m.ended:=by
 unfold Mc.put
 split<;>rfl
structure Cf (K:Nat->Nat) (s:List UInt8) (wn:Nat) (m:Mc):Prop where
 ok:m.Ok
 k0:m.k0=2
 k1:m.k1=0
 k2:m.k2=0
 k3:m.k3=0
 k4:m.k4=0
 k5:m.k5=42
 name:m.name=⟨#[107,101,114,110,101,108]⟩
 cap:m.cap=600000
 gQ:m.gQ.data.toList=Hs.Xk K s
 blk:m.blk=8
 win:m.win=wn
 rx:m.rx=16
 tx:m.tx=16
 cq:m.cq=[]
theorem Cf.card{s:List UInt8}{wn:Nat}(c:Cf K s wn m):m.card=[2,0,0,0,0,42]:=by
 unfold Mc.card;rw[c.k0,c.k1,c.k2,c.k3,c.k4,c.k5]
theorem Cf.taken{s:List UInt8}{wn:Nat}(c:Cf K s wn m):Cf K s wn m.taken:=
 ⟨⟨c.ok.1,c.ok.2,c.ok.3,c.ok.4,c.ok.5,c.ok.6,c.ok.7,c.ok.8,c.ok.9,c.ok.10,c.ok.11,c.ok.12,c.ok.13,c.ok.14,c.ok.15,c.ok.16⟩,c.k0,c.k1,c.k2,c.k3,c.k4,c.k5,c.name,c.cap,c.gQ,c.blk,c.win,c.rx,c.tx,c.cq⟩
theorem Cf.next{s:List UInt8}{wn:Nat}(c:Cf K s wn m)(f:ByteArray):Cf K s wn (nx m f):=by
 rw[Y9 c.cq (by rw[c.rx];decide)];exact⟨⟨c.ok.1,c.ok.2,c.ok.3,c.ok.4,c.ok.5,c.ok.6,c.ok.7,c.ok.8,c.ok.9,c.ok.10,c.ok.11,c.ok.12,c.ok.13,c.ok.14,c.ok.15,c.ok.16⟩,c.k0,c.k1,c.k2,c.k3,c.k4,c.k5,c.name,c.cap,c.gQ,c.blk,c.win,c.rx,c.tx,c.cq⟩
theorem Xi(m:Mc):m.taken.gq=[]:=by
 show m.gq.drop m.gq.length=[];exact bD9
end Ho
namespace Ho
open Bs Js
variable{w0 w w':fV} {P:Nat→Prop} {Q B H G:Nat} {m m':Mc} {h h':Host} {K:Nat→Nat} {s:List UInt8} {wn:Nat} {img:ByteArray}
theorem Cf.sent(c:Cf K s wn m)(f:ByteArray):Cf K s wn (m.sent f):=
 ⟨c.ok.sent f,by rw[aO1];exact c.k0,by rw[aM6];exact c.k1,by rw[aL0];exact c.k2,by rw[aM2];exact c.k3,by rw[aL4];exact c.k4,by rw[aO0];exact c.k5,by rw[aF6];exact c.name,by rw[aK3];exact c.cap,by rw[aB8];exact c.gQ,by rw[aJ0];exact c.blk,by rw[aH5];exact c.win,by rw[aM3];exact c.rx,by rw[aO2];exact c.tx,by rw[aN5];exact c.cq⟩
theorem Cf.Ww(c:Cf K s wn m):Cf K s wn m.Ww:=
 ⟨c.ok.Ww,c.k0,c.k1,c.k2,c.k3,c.k4,c.k5,c.name,c.cap,c.gQ,c.blk,c.win,c.rx,c.tx,c.cq⟩
def YX(id gF:Int)(kb:UInt8)(os:Dh.gU):ByteArray:=og.ni [255,255,255,255,255,255,2,0,0,0,0,42] 2048 (Ip.Db id 64 17 0 4294967295 (Ud.sH 68 67 0 4294967295 (Dh.nH false gF 0 0 0 [2,0,0,0,0,42] (kY kb os))))
theorem aA9(c:Cf K s wn m)(hst:m.st<4)(hg:m.gq=[])(kb:UInt8)(os:Dh.gU):m.say kb os=m.Ww.sent (YX m.id m.gF kb os)/\(m.say kb os).gq=[YX m.id m.gF kb os]/\Cf K s wn (m.say kb os):=by
 have ha:m.addr=0:=by unfold Mc.addr;rw[bp0 hst]
 have e:m.say kb os=m.Ww.sent (YX m.id m.gF kb os):=by
  show m.Ww.sent _=_;unfold Mc.lD Mc.qz YX;rw[show m.Ww.card=m.card from rfl,c.card,ha];rfl
 refine⟨e,?_,by rw[e];exact c.Ww.sent _⟩;rw[e,ah6 _ _ (by show m.gq.length≠m.tx;rw[hg,c.tx];decide)];show m.gq++_=_;rw[hg];rfl
def ad8(h:Host)(gF:Int)(kb:UInt8):ByteArray:=h.frame 67 68 (Dh.nH true gF 0 167772215 h.next [2,0,0,0,0,42] (Ws kb (Xm 167772161) (Xm h.gK))) 167772161 167772215
theorem Yk(h:Host)(f t fr ta:Int)(L:ByteArray):(h.frame f t L fr ta).size<=2000:=by
 unfold Host.frame;have h1:(Ud.sH f t fr ta L).size<=1480:=WI _ _ _ _ _;have h2:=ah0 h.Ww.id fr ta _ h1;have h3:=(Xj 2 0 0 0 0 42 2 0 0 0 0 7 2048 _ (by decide) h2).2;exact bo6 h3 (by decide)
theorem ab6(h:Host)(gF:Int)(kb:UInt8):(ad8 h gF kb).size<=2000:=by
 unfold ad8;exact Yk _ _ _ _ _ _
theorem an9(kb:UInt8)(gF:Int):(Dh.mr false gF 0 0 0 [2,0,0,0,0,42] (kY 1 [])).length<=1472/\(Dh.mr false gF 0 0 0 [2,0,0,0,0,42] (kY 3 [(50,g_ 167772215),(54,g_ 167772161)])).length<=1472:=by
 constructor
 ·unfold Dh.mr
  rw[bn6,bn6,Dh.jY _ _ _ _ _ _ _ rfl];simp[kY,Dh.jb,Dh.mq,jH]
 unfold Dh.mr;rw[bn6,bn6,Dh.jY _ _ _ _ _ _ _ rfl];simp[kY,Dh.jb,Dh.mq,jH,g_,iY,iy]
def Yg:ByteArray:=og.ni [255,255,255,255,255,255,2,0,0,0,0,42] 2054 (WM.vE 1 [2,0,0,0,0,42] 0 [0,0,0,0,0,0] 167772215)
theorem BL(x:Int)(h:0<=x/\x<=100000):wrap64 x=x:=by
 unfold wrap64;omega
structure I0 (K:Nat->Nat) (s:List UInt8) (wn:Nat) (m:Mc):Prop where
 cf:Cf K s wn m
 st:m.st=0
 gq:m.gq=[]
 cd:m.cd=.map []
 ph:m.phase=0
 now:m.now=0
 img:m.ql=[]
theorem Cf.at(c:Cf K s wn m)(b:Nat):Cf K s wn (m.at b):=
 ⟨c.ok.at b,c.k0,c.k1,c.k2,c.k3,c.k4,c.k5,c.name,c.cap,c.gQ,c.blk,c.win,c.rx,c.tx,c.cq⟩
theorem Cf.clock(c:Cf K s wn m)(d:Int)(hd:0<=d/\d<=4294967295):Cf K s wn (m.clock d):=
 ⟨c.ok.clock d hd,c.k0,c.k1,c.k2,c.k3,c.k4,c.k5,c.name,c.cap,c.gQ,c.blk,c.win,c.rx,c.tx,c.cq⟩
def az1:ByteArray:=og.ni [255,255,255,255,255,255,2,0,0,0,0,42] 2054 (WM.vE 1 [2,0,0,0,0,42] 167772215 [0,0,0,0,0,0] 167772161)
def qw(wn:Nat):ByteArray:=⟨(Tf.U7 (Xc [107,101,114,110,101,108] 8 wn)).toArray⟩
theorem am0(n:Nat)(h:1<=n/\n<=8):(Lib.itoa n).length<=32:=by
 obtain⟨h1,h2⟩:=h;have hc:n=1∨n=2∨n=3∨n=4∨n=5∨n=6∨n=7∨n=8:=by omega
 rcases hc with rfl|rfl|rfl|rfl|rfl|rfl|rfl|rfl<;>decide+kernel
def aB9:ByteArray:=og.ni [2,0,0,0,0,42,2,0,0,0,0,7] 2054 (WM.vE 2 [2,0,0,0,0,7] 167772161 [2,0,0,0,0,42] 167772215)
def rZ(i fp tp:Int)(L:ByteArray):ByteArray:=og.ni [2,0,0,0,0,7,2,0,0,0,0,42] 2048 (Ip.Db i 64 17 167772215 167772161 (Ud.sH fp tp 167772215 167772161 L))
theorem aj2:aB9.size<=2000:=by
 unfold aB9;exact bo6 (Xj 2 0 0 0 0 42 2 0 0 0 0 7 2054 _ (by decide) (Yz _ _ _ _ _ _ _ _ _ _ _ _ _ _ _)).2 (by decide)
theorem aA8(d:DataW Unit)(x:Nb)(hd:d=x.d):Room (.map [(.int .u32 167772161,d)]) 167772161:=
 ⟨by decide,⟨x,by rw[hd];rfl⟩,bo1 rfl,fun d=>(show 1<=4 by decide)⟩
def XM(n:Nat):ByteArray:=⟨(Tf.U7 ⟨4,n%65536,[],[],[]⟩).toArray⟩
structure aB1 (wn n:Nat):Prop where
 w:1<=wn/\wn<=8
 z:n<=600000
 rk:Tf.UU (Xc [107,101,114,110,101,108] 8 wn)=0
 nb:Yj 0 (Xc [107,101,114,110,101,108] 8 wn).fs Gp=((8:Nat):Int)
 nw:Yj 0 (Xc [107,101,114,110,101,108] 8 wn).fs I1=wn
 fz:∀x ∈ (Xc [107,101,114,110,101,108] 8 wn).fs,x.2.length<=1000
 i1:Xa ⟨(dg n).toArray⟩ n
 i2:Xa ⟨(dg 8).toArray⟩ 8
 i3:Xa ⟨(dg wn).toArray⟩ wn
 ok:Tf.UU ⟨6,0,[],[],[(VC,dg n),(Gp,dg 8),(I1,dg wn)]⟩=0
theorem aC9(n:Nat):Tf.UU ⟨4,n%65536,[],[],[]⟩=0/\(XM n).size<=1472:=by
 have e:Tf.UU ⟨4,n%65536,[],[],[]⟩=0:=by simp[Tf.UU,Tf.RS,Tf.Mq,Tf.TU]
 refine⟨e,?_⟩;unfold XM;rw[strSize];unfold Tf.U7;rw[bp0 e];simp[Tf.Mq,Tf.TU]
theorem ax8(bl:Nat)(D:List UInt8)(h:D.length<=8):Tf.UU (WN bl D)=0/\(YD bl D).size<=1472:=by
 have e:Tf.UU (WN bl D)=0:=by
  have h2: ¬1024<D.length:=by omega
  have h3:(Tf.Mq (WN bl D)).length<=1472:=by simp[Tf.Mq,WN,Tf.TU];omega
  unfold Tf.UU;rw[bo4 (by simp[Tf.RS,WN]),bo4 (by rintro ⟨_,q⟩;exact h2 q),bo4 (by omega)]
 refine⟨e,?_⟩;unfold YD;rw[strSize];unfold Tf.U7;rw[bp0 e];simp[Tf.Mq,WN,Tf.TU];omega
theorem Yr{op bl:Int}{ts ds:ByteArray}{n:Nat}{xs:List Value}{f:Int}{Z Z':Mc->Prop}{R:fV->(Nat->Prop)->Prop}(L:Looks R op bl ts ds n xs f B m Z)(hz:∀x,Z x->Z' x):Looks R op bl ts ds n xs f B m Z':=
 fun w0 P u sa sc g b h1 h2 h3 h4 h5 h6=>(L w0 P u sa sc g b h1 h2 h3 h4 h5 h6).mono fun ee w'=>by
  rintro ⟨e,mz,q,hm⟩;exact⟨e,mz,hz mz q,hm⟩
theorem YH(h:Host)(f:Int)(a n:Nat):(h.WE f a n).length=n:=by unfold Host.WE;simp
end Ho
namespace Ho
open Bs Js
theorem dg1(n:Nat)(h:n<10):dg n=[UInt8.ofNat (48+n)]:=by rw[dg,bp0 h]
theorem dg2(n:Nat)(h: ¬n<10):dg n=dg (n/10)++ [UInt8.ofNat (48+n%10)]:=by rw[dg,bo4 h]
theorem dg8:dg 8=[56]:=by rw[dg1 8 (by decide)];rfl
theorem bm2:dg 1=[49]:=by rw[dg1 1 (by decide)];rfl
theorem it8:Lib.itoa 8=[56]:=by decide+kernel
theorem it1:Lib.itoa 1=[49]:=by decide+kernel
theorem aL7:Xa ⟨(dg 8).toArray⟩ 8:=by
 rw[dg8];exact⟨by decide,by decide+kernel,by rw[it8],by decide⟩
theorem bm6:Xa ⟨(dg 1).toArray⟩ 1:=by
 rw[bm2];exact⟨by decide,by decide+kernel,by rw[it1],by decide⟩
theorem vk:Xc [107,101,114,110,101,108] 8 (1:Nat)=⟨1,0,[107,101,114,110,101,108],[],[([98,108,107,115,105,122,101],[56]),([119,105,110,100,111,119,115,105,122,101],[49]),([116,115,105,122,101],[48])]⟩:=by
 unfold Xc;rw[it8,show((1:Nat):Int)=1 from rfl,it1]
theorem an6(L:List UInt8)(k:Nat)(x:Int)(hx:0<=x/\x<256):(gY L).set k (.int .u8 x)=gY (L.set k (UInt8.ofNat x.toNat)):=by
 unfold gY;rw[List.map_set];congr 2
 have:((UInt8.ofNat x.toNat).toNat:Int)=x:=by simp;omega
 exact this.symm
def Y3(seed:Int)(k:Nat):UInt8:=UInt8.ofNat ((seed*((k:Int)+3)+(k:Int)*(k:Int)/7+(k:Int)/251)%256).toNat
def ay(n:Nat)(seed:Int):List UInt8:=(List.range n).map (Y3 seed)
theorem G9(n:Nat)(seed:Int):(ay n seed).length=n:=by unfold ay;simp
theorem aW6{n:Nat}{seed:Int}{L:List UInt8}(hL:L.length=n)(h:∀i,i<n->L[i]?=some (Y3 seed i)):L=ay n seed:=by
 apply bA4;intro i;unfold ay
 by_cases hi:i<n
 ·rw[h i hi];simp[hi]
 rw[bx8 (by omega),bx8 (by simp;omega)]
theorem aX0(n:Nat)(hn:n<=1000000)(seed:Int)(hs:0<=seed/\seed<=100)(w:fV):
  f_ Vh 7 #[.int .i64 n,.int .i64 seed] w fun e w'=>e=.returned (.string ⟨(ay n seed).toArray⟩)/\gm w.heap.size w w':=by
 obtain⟨i0,hi,hz0,hz1,hz2⟩:=bs1 tu;obtain⟨M,hM⟩:=ex_ (madeCells #[Value.int .u8 0] n);have hMl:M.toList=gY (List.replicate n 0):=by
  rw[hM,bg4];unfold gY;rw[List.map_replicate];rfl
 have hmk:∀u:fV,(Instr.makeSlice 73 (.int .i64 (n:Int)) (.int .i64 (n:Int))).run Vh u=.ok (.slice (some (a_ u.heap.size 0)) n n) (u.alloc (.cells M 5)):=fun u=>by
  have h:=run_make (P:=Vh) u 73 5 i0 (.int .u8 0) br3 hi hz0 .i64 .i64 (n:Int) (n:Int) (by omega) (ah _) (by rw[hz2];omega) (by omega);rw[hM];simpa[hz1,Value.cells]using h
 have HS:Hid (∃L:List UInt8,L.length=n/\gm w.heap.size w (w.alloc (.cells M 5))/\(w.alloc (.cells M 5)).heap[w.heap.size]?=some (.cells (gY L).toArray 5 (0,0))):=M0 ⟨List.replicate n 0,by simp,(bn9 _ _).alloc (bn7 _) _,by rw[<-hMl];exact bn3 w _⟩;clear hM hMl;go_enter func7,ntmps7;go_wp2;go_loopw [11] (fun i wr=>∃k:Nat,k<=n/\i=.int .i64 k/\Hid (∃L:List UInt8,(L.length=n/\∀i,i<k->L[i]?=some (Y3 seed i))/\gm w.heap.size w wr/\wr.heap[w.heap.size]?=some (.cells (gY L).toArray 5 (0,0)))) (fun i _=>n-(intOf i).toNat)
 case atStart=>
  obtain⟨L,h1,h2⟩:=gB HS;exact⟨0,bp3 _,rfl,M0 ⟨L,⟨h1,fun i hi=>absurd hi (by omega)⟩,h2⟩⟩
 obtain⟨k,hk,rfl,HL⟩:=hrel;rename fV=>wr;clear HS
 by_cases hlt:k<n
 ·have hki:(k:Int)<(n:Int):=by omega
  obtain⟨L,⟨hL,hLF⟩,hb,hr⟩:=gB HL;have HLF:=M0 hLF;clear hLF;have hr':=hr;have hkk:(k:Int)*(k:Int)<=1000000*1000000:=Int.mul_le_mul (by omega) (by omega) (by omega) (by omega);have hkk0:0<=(k:Int)*(k:Int):=Int.mul_nonneg (by omega) (by omega);have hsk:seed*((k:Int)+3)<=100*1000003:=Int.mul_le_mul (by omega) (by omega) (by omega) (by omega);have hsk0:0<=seed*((k:Int)+3):=Int.mul_nonneg (by omega) (by omega);have hc:∃z:Value,wr.cell? (a_ w.heap.size k)=some z:=⟨.int .u8 (L[k]'(by omega)).toNat,by
   rw[bn0 _ _ k _ _ _ hr]
   simp[gY,bq7 (show k<L.length by omega)]⟩
  obtain⟨z,hc⟩:=hc;have hf:wr.frozen? (a_ w.heap.size k)=false:=by simp[World.frozen?,hr]
  have HR:=M0 (show L.length=n/\gm w.heap.size w wr/\wr.heap[w.heap.size]?=some (.cells (gY L).toArray 5 (0,0))from⟨hL,hb,hr⟩);clear hL hb hr hr' HL;go_wp2;have HXE:Hid (UInt8.ofNat ((seed*((k:Int)+3)+(k:Int)*(k:Int)/7+(k:Int)/251)%256).toNat=Y3 seed k):=M0 rfl;obtain⟨X,hX⟩:∃X:Int,X=(seed*((k:Int)+3)+(k:Int)*(k:Int)/7+(k:Int)/251)%256:=⟨_,rfl⟩;have hXb:0<=X/\X<256:=by rw[hX];omega
  rw[<-hX]at HXE ⊢;refine⟨⟨k+1,by omega,by go_num,M0 ⟨L.set k (UInt8.ofNat X.toNat),?_,?_,?_⟩⟩,by simp[intOf];omega⟩
  ·refine⟨by rw[bz9];exact HR.1,fun i hi=> ?_⟩
   have hl:=HR.1
   by_cases hik:i=k
   ·subst hik
    rw[ai (by omega),gB HXE]
   rw[List.getElem?_set_ne (Ne.symm hik)];exact HLF i (by omega)
  ·exact HR.2.1.setCell (bn7 _) _
  have q:=gI wr k (.int .u8 X) HR.2.2;rw[bm7,an6 L k X hXb]at q;exact q
 have e:k=n:=by omega
 obtain⟨L,⟨hL,hLF⟩,hb,hr⟩:=gB HL;have HLE:=M0 (aW6 hL (by rw[<-e];exact hLF));clear hLF;have hcv:=bv8 (P:=Vh) wr 73 9 5 (a_ w.heap.size 0) n L br3 bv4 bs8 (fun j hj=>by
  rw[show(((a_ w.heap.size 0):Addr).add j)=(a_ w.heap.size j)from by unfold Addr.add;split<;>simp_all,bn0 _ _ j _ _ _ hr]
  simp[gY,bq7 hj])
 rw[hL]at hcv;have HR:=M0 (show L.length=n/\gm w.heap.size w wr from⟨hL,hb⟩);clear hL hb hr HL e;have hni: ¬(k:Int)<(n:Int):=by omega
 go_wp2;go_ret;rw[<-gB HLE];exact⟨rfl,HR.2⟩
end Ho
namespace Ho
open Bs Js
variable{w0 w w':fV} {P:Nat→Prop} {Q B H G:Nat} {m m':Mc} {h h':Host} {K:Nat→Nat} {s:List UInt8} {wn:Nat} {img:ByteArray}
theorem ah9(c:NA w):Kd w:=⟨c.1,c.2.1,c.2.2.1,c.2.2.2.1,c.2.2.2.2.1,c.2.2.2.2.2.1⟩
theorem z0(n:Int)(h:0<=n):0<=(0:Int)/\(0:Int)<=n:=⟨ah _,h⟩
theorem aJ2(D:ByteArray)(e:D.data.toList=Hs.Xk K s)(bm cg gg:Nat):I0 K s wn (Qb (qg.mk 2 0 0 0 0 42 ⟨#[107,101,114,110,101,108]⟩ 600000 D 8 wn ((16:Nat):Int) ((16:Nat):Int)) bm cg gg):=
 ⟨⟨⟨z0 _ (by decide),z0 _ (by decide),z0 _ (by decide),z0 _ (by decide),z0 _ (by decide),z0 _ (by decide),z0 _ (by decide),z0 _ (by decide),z0 _ (by decide),z0 _ (by decide),z0 _ (by decide),z0 _ (by decide),z0 _ (by decide),z0 _ (by decide),z0 _ (by decide),by show(⟨#[]⟩:ByteArray).size<=262144;decide⟩,rfl,rfl,rfl,rfl,rfl,rfl,rfl,rfl,e,rfl,rfl,rfl,rfl,rfl⟩,rfl,rfl,rfl,rfl,rfl,rfl⟩
theorem as3(hw:1<=wn/\wn<=8):(qg.mk 2 0 0 0 0 42 ⟨#[107,101,114,110,101,108]⟩ 600000 ⟨(Hs.Xk K s).toArray⟩ 8 wn ((16:Nat):Int) ((16:Nat):Int)).Good:=by
 refine⟨by show nO 2 0 0 0 0 42=true;decide,by show Tf.iM [107,101,114,110,101,108]=true;decide,by show(⟨#[107,101,114,110,101,108]⟩:ByteArray).size<=20;decide,?_,⟨by show(1:Int)<=600000;decide,by show(600000:Int)<=600000;decide⟩,⟨by show(8:Int)<=8;decide,by show(8:Int)<=1024;decide⟩,⟨by show(1:Int)<=wn;omega,by show(wn:Int)<=8;omega⟩,⟨by show(1:Int)<=((16:Nat):Int);decide,by show((16:Nat):Int)<=16;decide⟩,⟨by show(1:Int)<=((16:Nat):Int);decide,by show((16:Nat):Int)<=16;decide⟩⟩;show(Hs.Xk K s).toArray.size=32;rw[bt3,Hs.XV]
end Ho
end Go.Proofs.YtdgacidndknceaaGreatDoor
