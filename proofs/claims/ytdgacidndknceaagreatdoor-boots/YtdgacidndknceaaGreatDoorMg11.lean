import Derived.Test.YtdgacidndknceaaGreatDoorMg08
set_option linter.all false
set_option maxHeartbeats 8000000
set_option maxRecDepth 10000
open Go.ChangeShapes Go.WideShapes Go.ChangeAt Go.RowKit
open Go renaming World → fV, Calls → f_
open Go.RowKit renaming Below → gm
open Go.Proofs.Tryz renaming prog → Vh
open Go.Proofs.Tryz
namespace Go.Proofs.YtdgacidndknceaaGreatDoor
namespace Ho
open Bs Js
variable{w w' u u':fV} {H:Nat} {h h':Host}
structure Dx (w u:fV) (H:Nat) (h:Host) (d:Nat) (cs:Array Value) (v:Value) (os:Dh.gU):Prop where
 at':At u H h
 cd:NA u
 tn:PU w u H
 b1:u.heap[d]?=some (.cells cs 132 (0,0))
 hi:w.heap.size<=d
 own:u.ownsRow w.heap.size 138 2 v os.length (Dh.gT os)
variable{d:Nat} {cs:Array Value} {v:Value} {os:Dh.gU}
theorem Dx.below(b:Dx w u H h d cs v os)(hb:gm u.heap.size u u'):Dx w u' H h d cs v os:=
 ⟨b.at'.below hb,b.cd.below hb,Sd b.tn hb,(hb.block _ (gG b.b1)).trans b.b1,b.hi,iN b.own (fun j hj=>hb.block j (b.own.lt j hj).2)⟩
theorem Dx.host(b:Dx w u H h d cs v os)(hH:H<w.heap.size)(h0:(0:Nat)≠H)(h1:(1:Nat)≠H)(k:At u' H h')(tn:PU u u' H):Dx w u' H h' d cs v os:=
 ⟨k,b.cd.of (tn.block _ b.cd.lt.1 h0) (tn.block _ b.cd.lt.2 h1),⟨tn.os.trans b.tn.os,tn.tape.trans b.tn.tape,tn.output.trans b.tn.output,bo6 b.tn.size tn.size,fun j hj hn=>(tn.block j (bo9 hj b.tn.size) hn).trans (b.tn.block j hj hn)⟩,(tn.block _ (gG b.b1) (by have:=b.hi;omega)).trans b.b1,b.hi,iN b.own (fun j hj=>tn.block j (b.own.lt j hj).2 (by have:=(b.own.lt j hj).1;omega))⟩
end Ho
namespace Ho
open Bs Js
variable{w w' u u':fV} {H:Nat} {h h':Host}
theorem ax9(kb:UInt8)(sv le:List UInt8)(j:Nat):(#[.int .u8 53,.string ⟨#[kb]⟩,.int .u8 54,.string ⟨sv.toArray⟩,.int .u8 51,.string ⟨le.toArray⟩,.int .u8 1,.string ⟨#[255,255,255,0]⟩,.int .u8 3,.string ⟨sv.toArray⟩]:Array Value)[j]?=(Dh.gT (Ws kb sv le))[j]?:=by
 rw[<-br1];rfl
theorem bj6{b:Nat}{V W:fV}(h:gm b V W)(hb:b<=W.heap.size)(v:Value)(t:TypeId):gm b V (W.alloc (.cells #[v] t))/\(W.alloc (.cells #[v] t)).cell? (a_ W.heap.size 0)=some v:=
 ⟨h.alloc hb _,bn0 _ _ 0 _ _ _ (bn3 _ _)⟩
theorem VT{P:Program}{ops:Array Oper}{Q:Exit->Act->fV->Prop}{md:Region.Mode}{S:fV->Prop}{fuel:Nat}{listed:Array Bool}{a:Act}{W:fV}{g:Nat}{v:Value}(hg:W.cell? (a_ g 0)=some v)(hS:S W)
  (h:S W/\W.cell? (a_ g 0)=some v->wpAnyH P md ops Q (fun u=>S u/\u.cell? (a_ g 0)=some v) fuel listed a W):wpAnyH P md ops Q S fuel listed a W:=
 Wh (S':=fun u=>S u/\u.cell? (a_ g 0)=some v) (fun _ h=>h.1) _ _ _ _ (h ⟨hS,hg⟩)
theorem av8(k:At w H h)(c:NA w)(hH0:(0:Nat)≠H)(hH1:(1:Nat)≠H)(f t:Int)(L:ByteArray)(gF cl yo ne:Int)(os:Dh.gU)(kb q:UInt8)(hq:Y2 os 53=[q])(hqk:q=1/\kb=2∨q=3/\kb=5)(hol:os.length<=1000)(hx:0<=gF/\gF<=4294967295)(hn:0<=h.next/\h.next<=4294967295)(hle:0<=h.gK/\h.gK<=4294967295)
  (hR:∀u,f_ Vh 66 #[.string L] u fun ee w'=>Lp.IE os.length (Dh.gT os) u (fun sa sc=>.tuple #[.agg #[.bool false,.int .u32 gF,.int .u32 cl,.int .u32 yo,.int .u32 ne,.int .u8 2,.int .u8 0,.int .u8 0,.int .u8 0,.int .u8 0,.int .u8 42,.slice sa os.length sc],.int .i64 0]) ee w'):
  f_ Vh 40 #[p_ H,.agg #[.int .u16 f,.int .u16 t,.string L]] w fun ee w'=>∃g,ee=.returned (.tuple #[.slice (some (a_ g 0)) 1 1,.bool true])/\w'.ownsRow w.heap.size 9 1 (.slice (some (a_ g 0)) 1 1) 1 [.string (h.frame 67 68 (Dh.nH true gF 0 167772215 h.next [2,0,0,0,0,42] (Ws kb (Xm 167772161) (Xm h.gK))) 167772161 167772215)]/\At w' H h.Ww/\PU w w' H:=by
 have hlt:=gG k;have HR:=Fe hR;have HK:=Fe k;have HC:=Fe c;clear hR k c;go_enter func40,ntmps40;go_wp2_with fail;refine(HR _).mono ?_;rintro ee u1 ⟨sa,sc,rfl,o1,hb1⟩;obtain⟨cs,hcs⟩:∃cs:Array Value,cs=#[.bool false,.int .u32 gF,.int .u32 cl,.int .u32 yo,.int .u32 ne,.int .u8 2,.int .u8 0,.int .u8 0,.int .u8 0,.int .u8 0,.int .u8 42,.slice sa os.length sc]:=⟨_,rfl⟩;obtain⟨X,hX⟩:=ex_ (u1.alloc (.cells #[.bool false,.int .u32 gF,.int .u32 cl,.int .u32 yo,.int .u32 ne,.int .u8 2,.int .u8 0,.int .u8 0,.int .u8 0,.int .u8 0,.int .u8 42,.slice sa os.length sc] 132));obtain⟨d,hd⟩:=ex_ u1.heap.size;have HX:Hid (Dx w X H h d cs (.slice sa os.length sc) os):=Fe (by
  have hb0:gm w.heap.size w (w.alloc (.cells #[.int .u16 f,.int .u16 t,.string L] 69)):=(bn9 _ _).alloc (bn7 _) _
  have hb2:gm u1.heap.size u1 X:=by rw[hX];exact(bn9 _ _).alloc (bn7 _) _
  have hb3:=hb0.trans (hb1.mono hb0.size)
  have hb4:=hb3.trans (hb2.mono hb3.size)
  refine⟨HK.below hb4,HC.below hb4,⟨hb4.os,hb4.tape,hb4.output,hb4.size,fun j hj _=>hb4.block j hj⟩,by rw[hX,hd,hcs];exact bn3 u1 _,by rw[hd];exact hb3.size,?_⟩
  have o2:=iN o1 (w':=X) (fun j hj=>hb2.block j (o1.lt j hj).2)
  exact⟨o2.1,o2.2.imp id (fun⟨g,cap,cur,e1,e2,e3⟩=>⟨g,cap,cur,e1,bo6 hb0.size e2,e3⟩)⟩)
 have HC1:Hid (NA u1):=Fe (by
  have hb0:gm w.heap.size w (w.alloc (.cells #[.int .u16 f,.int .u16 t,.string L] 69)):=(bn9 _ _).alloc (bn7 _) _
  exact HC.below (hb0.trans (hb1.mono hb0.size)))
 obtain⟨g0,g1,g2,g3,g4,g5,_⟩:=gB HC1;have hc0:=HC1.lt.1;have hc1:(0:Nat)≠u1.heap.size:=bo5 hc0;have hmq:∀u,(Op.equalIn 10000 30 (.agg #[.int .u8 2,.int .u8 0,.int .u8 0,.int .u8 0,.int .u8 0,.int .u8 42]) (.agg #[.int .u8 2,.int .u8 0,.int .u8 0,.int .u8 0,.int .u8 0,.int .u8 42])).run Vh u=.ok true u:=fun u=>Sq.Yx 9998 2 0 0 0 0 42 u;have HOP:Hid (∀u,Dx w u H h d cs (.slice sa os.length sc) os->f_ Vh 67 #[.slice sa os.length sc,.int .u8 53] u fun e w'=>e=.returned (.string ⟨#[q]⟩)/\gm u.heap.size u w'):=Fe (fun u hu=>by
  have z:=Ii sa sc os 53 u (xw hu.own) hol
  rw[hq]at z
  exact z)
 clear o1 hb1 HK HC HR HC1;have HBD:Hid ((q==3)=decide (kb=5)):=Fe (by rcases hqk with⟨rfl,rfl⟩|⟨rfl,rfl⟩<;>decide);obtain⟨bq,hbq⟩:∃bq:Bool,bq=(q==3):=⟨_,rfl⟩;have hcmp:((⟨#[q]⟩:ByteArray).toList==(⟨#[3]⟩:ByteArray).toList)=bq:=by
  rw[hbq,bq0,bq0];simp
 obtain⟨kI,hkI⟩:∃kI:Int,kI=(kb.toNat:Int):=⟨_,rfl⟩;have HKI:=Fe hkI;have HBQ:Hid (bq=true/\kI=5∨bq=false/\kI=2):=Fe (by
  rcases hqk with⟨rfl,rfl⟩|⟨rfl,rfl⟩
  ·exact bo3 ⟨by rw[hbq];decide,by rw[hkI];decide⟩
  exact bo1 ⟨by rw[hbq];decide,by rw[hkI];decide⟩)
 have HD:=Fe hd;have HBQ0:=Fe hbq;clear hbq hkI hd;go_upto_region 5 with fail;rw[<-hX,<-gB HD];clear g0 g1 g2 g3 g4 g5 hc0 hc1 hX hmq;have e6:X.cell? (a_ d 11)=some (.slice sa os.length sc):=by rw[bn0 X _ 11 _ _ _ HX.b1,hcs];rfl
 go_cut [32] (fun v wc=>v=.bool bq/\Hid (Dx w wc H h d cs (.slice sa os.length sc) os));case first=>
  go_wp2_with fail;refine on_ (HOP _ HX) fun u2 hb2=>?_;have HX2:=Fe (HX.below hb2);clear hb2 HX e6;go_wp2;go_meet;exact⟨by rw[gB HBQ0],HX2⟩
 rename fV=>wc;obtain⟨rfl,HX2⟩:=hcut;clear HX e6;go_upto_if 32 with fail;go_cut [8] (fun v wd=>v=.int .u8 kI/\wd=wc);case first=>
  rcases gB HBQ with⟨rfl,e⟩|⟨rfl,e⟩
  ·go_wp2
   go_meet;exact⟨by rw[e],rfl⟩
  go_wp2;go_meet;exact⟨by rw[e],rfl⟩
 obtain⟨rfl,rfl⟩:=hcut;obtain⟨aB,haB⟩:∃aB:ByteArray,aB=Dh.nH true gF 0 167772215 h.next [2,0,0,0,0,42] (Ws kb (Xm 167772161) (Xm h.gK)):=⟨_,rfl⟩;go_upto_region 7 with fail;go_cut [9] (fun v wd=>v=.string aB/\Hid (Dx w wd H h d cs (.slice sa os.length sc) os));case first=>
  obtain⟨F4,hF4⟩:∃F4:Int->ByteArray,F4=fun x=>⟨(Xm x).toArray⟩:=⟨_,rfl⟩;have HF4:Hid (∀(u:fV) (x:Int),0<=x/\x<=4294967295->f_ Vh 69 #[.int .u32 x] u fun e w'=>e=.returned (.string (F4 x))/\gm u.heap.size u w'):=Fe (fun u x hx=>by rw[hF4];exact aB3 x hx u);have HV:=HX2;obtain⟨V,hV⟩:=ex_ wc;rw[<-hV]at HX2 ⊢;clear hV HV;have HCE:Hid (∀u,gm V.heap.size V u->u.cell? (a_ d 1)=some (.int .u32 gF)/\u.cell? (a_ H 2)=some (.int .u32 h.next)/\u.cell? (a_ H 1)=some (.int .u32 h.gK)/\u.cell? (a_ 0 0)=some (.int .u8 2)/\u.cell? (a_ 0 1)=some (.int .u8 0)/\u.cell? (a_ 0 2)=some (.int .u8 0)/\u.cell? (a_ 0 3)=some (.int .u8 0)/\u.cell? (a_ 0 4)=some (.int .u8 0)/\u.cell? (a_ 0 5)=some (.int .u8 42)):=Fe (fun u hu=>by
   have b:=HX2.below hu
   obtain⟨g0,g1,g2,g3,g4,g5,_⟩:=b.cd
   exact⟨by rw[bn0 u _ 1 _ _ _ b.b1,hcs];rfl,b.at'.cell 2,b.at'.cell 1,g0,g1,g2,g3,g4,g5⟩)
  have HCV:Hid (∀(u:fV) (g:Nat),u.cell? (a_ g 0)=some (.int .u8 kI)->(convert 73 9 (.slice (some (a_ g 0)) 1 1)).run Vh u=.ok (.string ⟨#[kb]⟩) u):=Fe (fun u g hg=>by
   have z:=Zf kb.toNat kb.toNat_lt u g (by rw[hg,gB HKI])
   rw[UInt8.ofNat_toNat]at z
   exact z)
  obtain⟨ek,hek⟩:∃ek:Int,ek=Dh.r_ true gF 0 167772215 h.next [2,0,0,0,0,42] (Ws kb (Xm 167772161) (Xm h.gK)):=⟨_,rfl⟩;have HWD:Hid (∀(u:fV) (g:Nat),u.heap[g]?=some (.cells #[.int .u8 53,.string ⟨#[kb]⟩,.int .u8 54,.string (F4 167772161),.int .u8 51,.string (F4 h.gK),.int .u8 1,.string ⟨#[255,255,255,0]⟩,.int .u8 3,.string (F4 167772161)] 138 (0,0))->f_ Vh 68 #[.agg #[.bool true,.int .u32 gF,.int .u32 0,.int .u32 167772215,.int .u32 h.next,.int .u8 2,.int .u8 0,.int .u8 0,.int .u8 0,.int .u8 0,.int .u8 42,.slice (some (a_ g 0)) 5 5]] u fun e w'=>e=.returned (.tuple #[.string aB,.int .i64 ek])/\gm u.heap.size u w'):=Fe (fun u g hg=>by
   rw[haB,hek]
   refine Dh.Wj true gF 0 167772215 h.next 2 0 0 0 0 42 (some (a_ g 0)) 5 (Ws kb (Xm 167772161) (Xm h.gK)) u hx (by decide) (by decide) hn ?_ ?_
   ·refine Dh.At.bf1 (fun j x hj=> ?_)
    have hadd:((a_ g 0):Addr).add j=(a_ g j):=jB g j
    rw[hadd,bn0 u _ j _ _ _ hg,<-hj,hF4]
    exact ax9 kb _ _ j
   simp[Ws,Dh.heavy,Xm])
  clear hF4 hek haB hcmp;refine wp_region_held_drew (S:=fun u=>u.cell? (a_ d 1)=some (.int .u32 gF)/\u.cell? (a_ H 2)=some (.int .u32 h.next)/\u.cell? (a_ H 1)=some (.int .u32 h.gK)/\u.cell? (a_ 0 0)=some (.int .u8 2)/\u.cell? (a_ 0 1)=some (.int .u8 0)/\u.cell? (a_ 0 2)=some (.int .u8 0)/\u.cell? (a_ 0 3)=some (.int .u8 0)/\u.cell? (a_ 0 4)=some (.int .u8 0)/\u.cell? (a_ 0 5)=some (.int .u8 42)) (by kernel_rfl) (HCE _ ((bn9 _ _).drew)) (fun hHeld=> ?_);have HBe:Hid (gm V.heap.size V V.drew):=Fe ((bn9 _ _).drew);generalize V.drew=V1 at*;refine tkH_ (i:=0) (v:=_) rfl (by kernel_rfl) (fun _ _ _ h=>h) (bo1 ⟨by rfl,fun wz hSz=>by go_simp<;>with_reducible rfl⟩) hHeld ?_;try simp only[Act.put,bn4,bn2,bn1,bm7,bm8,bm9]
  refine tkH_ (i:=1) (v:=_) rfl (by kernel_rfl) (fun _ _ _ h=>h) (bo1 ⟨by rfl,fun wz hSz=>by go_simp<;>with_reducible rfl⟩) hHeld ?_;try simp only[Act.put,bn4,bn2,bn1,bm7,bm8,bm9]
  refine tkH_ (i:=2) (v:=_) rfl (by kernel_rfl) (fun _ _ _ h=>h) (bo1 ⟨by rfl,fun wz hSz=>by go_simp<;>with_reducible rfl⟩) hHeld ?_;try simp only[Act.put,bn4,bn2,bn1,bm7,bm8,bm9]
  refine tkH_ (i:=3) (v:=_) rfl (by kernel_rfl) (fun _ _ _ h=>h) (bo1 ⟨by rfl,fun wz hSz=>by go_simp<;>with_reducible rfl⟩) hHeld ?_;try simp only[Act.put,bn4,bn2,bn1,bm7,bm8,bm9]
  refine tkH_ (i:=4) (v:=_) rfl (by kernel_rfl) (fun _ _ _ h=>h) (bo1 ⟨by rfl,fun wz hSz=>by go_simp<;>with_reducible rfl⟩) hHeld ?_;try simp only[Act.put,bn4,bn2,bn1,bm7,bm8,bm9]
  refine tkH_ (i:=5) (v:=_) rfl (by kernel_rfl) (fun _ _ _ h=>h) (bo1 ⟨by rfl,fun wz hSz=>by go_simp<;>with_reducible rfl⟩) hHeld ?_;try simp only[Act.put,bn4,bn2,bn1,bm7,bm8,bm9]
  refine tkH_ (i:=6) (v:=_) rfl (by kernel_rfl) (fun _ _ _ h=>h) (bo1 ⟨by rfl,fun wz hSz=>by go_simp<;>with_reducible rfl⟩) hHeld ?_;try simp only[Act.put,bn4,bn2,bn1,bm7,bm8,bm9]
  refine tkH_ (i:=7) (v:=_) rfl (by kernel_rfl) (fun _ _ _ h=>h) (bo1 ⟨by rfl,fun wz hSz=>by go_simp<;>with_reducible rfl⟩) hHeld ?_;try simp only[Act.put,bn4,bn2,bn1,bm7,bm8,bm9]
  refine tkH_ (i:=13) (v:=_) rfl (by kernel_rfl) (fun _ _ _ h=>h) (bo1 ⟨by rfl,fun wz hSz=>by go_simp<;>with_reducible rfl⟩) hHeld ?_;try simp only[Act.put,bn4,bn2,bn1,bm7,bm8,bm9]
  refine tkH_ (i:=14) (v:=_) rfl (by kernel_rfl) (fun _ _ _ h=>h) (bo1 ⟨by rfl,fun wz hSz=>by go_simp<;>with_reducible rfl⟩) hHeld ?_;try simp only[Act.put,bn4,bn2,bn1,bm7,bm8,bm9]
  refine tkH_ (i:=15) (v:=_) rfl (by kernel_rfl) (fun _ _ _ h=>h) (bo1 ⟨by rfl,fun wz hSz=>by go_simp<;>with_reducible rfl⟩) hHeld ?_;try simp only[Act.put,bn4,bn2,bn1,bm7,bm8,bm9]
  refine tkH_ (i:=16) (v:=_) rfl (by kernel_rfl) (fun _ _ _ h=>h) (bo1 ⟨by rfl,fun wz hSz=>by go_simp<;>with_reducible rfl⟩) hHeld ?_;try simp only[Act.put,bn4,bn2,bn1,bm7,bm8,bm9]
  refine tkH_ (i:=19) (v:=_) rfl (by kernel_rfl) (fun _ _ _ h=>h) (bo1 ⟨by rfl,fun wz hSz=>by go_simp<;>with_reducible rfl⟩) hHeld ?_;try simp only[Act.put,bn4,bn2,bn1,bm7,bm8,bm9]
  refine wpAnyH_ready (rs:=[8,11]) (by kernel_rfl) (by simp) ?_;refine AllReadyH.cons rfl (fun K hK=> ?a0) (AllReadyH.cons rfl (fun K hK=> ?b0) AllReadyH.nil);case' b0=>
   go_simp
   refine on_ (HF4 _ _ (by decide)) fun u2 hb2=>?_;have HBe:=Fe (HBe.trans (hb2.mono HBe.size));clear hb2 hHeld;go_wp2_with fail;refine hK.out _ _ (HCE _ HBe) (fun hHeld=> ?_);clear hK K;try simp only[Act.put,bn4,bn2,bn1,bm7,bm8,bm9]
   refine tkH_ (i:=12) (v:=_) rfl (by kernel_rfl) (fun _ _ _ h=>h) (bo1 ⟨by rfl,fun wz hSz=>by go_simp<;>with_reducible rfl⟩) hHeld ?_;try simp only[Act.put,bn4,bn2,bn1,bm7,bm8,bm9]
   refine wpAnyH_ready (rs:=[8,17]) (by kernel_rfl) (by simp) ?_;refine AllReadyH.cons rfl (fun K hK=> ?a1) (AllReadyH.cons rfl (fun K hK=> ?b1) AllReadyH.nil)
  case' b1=>
   go_simp
   refine on_ (HF4 _ _ hle) fun u2 hb2=>?_;have HBe:=Fe (HBe.trans (hb2.mono HBe.size));clear hb2 hHeld;go_wp2_with fail;refine hK.out _ _ (HCE _ HBe) (fun hHeld=> ?_);clear hK K;try simp only[Act.put,bn4,bn2,bn1,bm7,bm8,bm9]
   refine tkH_ (i:=18) (v:=_) rfl (by kernel_rfl) (fun _ _ _ h=>h) (bo1 ⟨by rfl,fun wz hSz=>by go_simp<;>with_reducible rfl⟩) hHeld ?_;try simp only[Act.put,bn4,bn2,bn1,bm7,bm8,bm9]
   refine wpAnyH_ready (rs:=[8,20]) (by kernel_rfl) (by simp) ?_;refine AllReadyH.cons rfl (fun K hK=> ?a2) (AllReadyH.cons rfl (fun K hK=> ?b2) AllReadyH.nil)
  case' b2=>
   go_simp
   refine on_ (HF4 _ _ (by decide)) fun u2 hb2=>?_;have HBe:=Fe (HBe.trans (hb2.mono HBe.size));clear hb2 hHeld;go_wp2_with fail;refine hK.out _ _ (HCE _ HBe) (fun hHeld=> ?_);clear hK K;try simp only[Act.put,bn4,bn2,bn1,bm7,bm8,bm9]
   refine tkH_ (i:=21) (v:=_) rfl (by kernel_rfl) (fun _ _ _ h=>h) (bo1 ⟨by rfl,fun wz hSz=>by go_simp<;>with_reducible rfl⟩) hHeld ?_;try simp only[Act.put,bn4,bn2,bn1,bm7,bm8,bm9]
   refine wpAnyH_ready (rs:=[8]) (by kernel_rfl) (by simp) ?_;refine AllReadyH.cons rfl (fun K hK=> ?a3) AllReadyH.nil
  all_goals
   go_simp
   obtain⟨hb8,hg8⟩:=bj6 HBe HBe.size (.int .u8 kI) 5;have HBe:=Fe hb8;have HG:=Fe hg8;clear hHeld hb8 hg8;refine hK.out _ _ (HCE _ HBe) (fun hHeld=> ?_);clear hK K;try simp only[Act.put,bn4,bn2,bn1,bm7,bm8,bm9]
   refine VT HG hHeld (fun hHeld=> ?_);refine tkH_ (i:=9) (v:=_) rfl (by kernel_rfl) (fun _ _ _ h=>h) (bo1 ⟨by rfl,fun wz hSz=>by have hcv:=HCV wz _ hSz.2;go_simp<;>with_reducible rfl⟩) hHeld ?_;try simp only[Act.put,bn4,bn2,bn1,bm7,bm8,bm9]
   refine tkH_ (i:=10) (v:=_) rfl (by kernel_rfl) (fun _ _ _ h=>h) (bo1 ⟨by rfl,fun wz hSz=>by go_simp<;>with_reducible rfl⟩) hHeld ?_;try simp only[Act.put,bn4,bn2,bn1,bm7,bm8,bm9]
  case' a0=>
   refine wpAnyH_ready (rs:=[11]) (by kernel_rfl) (by simp) ?_;refine AllReadyH.cons rfl (fun K hK=> ?_) AllReadyH.nil;go_simp
   refine on_ (HF4 _ _ (by decide)) fun u2 hb2=>?_;have HBe:=Fe (HBe.trans (hb2.mono HBe.size));have HG:=Fe (cell_below HG hb2);clear hb2 hHeld;go_wp2_with fail;refine hK.out _ _ (⟨HCE _ HBe,HG⟩) (fun hHeld=> ?_);clear hK K;try simp only[Act.put,bn4,bn2,bn1,bm7,bm8,bm9]
   refine tkH_ (i:=12) (v:=_) rfl (by kernel_rfl) (fun _ _ _ h=>h) (bo1 ⟨by rfl,fun wz hSz=>by go_simp<;>with_reducible rfl⟩) hHeld ?_;try simp only[Act.put,bn4,bn2,bn1,bm7,bm8,bm9]
  case' a0|a1=>
   refine wpAnyH_ready (rs:=[17]) (by kernel_rfl) (by simp) ?_;refine AllReadyH.cons rfl (fun K hK=> ?_) AllReadyH.nil;go_simp
   refine on_ (HF4 _ _ hle) fun u2 hb2=>?_;have HBe:=Fe (HBe.trans (hb2.mono HBe.size));have HG:=Fe (cell_below HG hb2);clear hb2 hHeld;go_wp2_with fail;refine hK.out _ _ (⟨HCE _ HBe,HG⟩) (fun hHeld=> ?_);clear hK K;try simp only[Act.put,bn4,bn2,bn1,bm7,bm8,bm9]
   refine tkH_ (i:=18) (v:=_) rfl (by kernel_rfl) (fun _ _ _ h=>h) (bo1 ⟨by rfl,fun wz hSz=>by go_simp<;>with_reducible rfl⟩) hHeld ?_;try simp only[Act.put,bn4,bn2,bn1,bm7,bm8,bm9]
  case' a0|a1|a2=>
   refine wpAnyH_ready (rs:=[20]) (by kernel_rfl) (by simp) ?_;refine AllReadyH.cons rfl (fun K hK=> ?_) AllReadyH.nil;go_simp
   refine on_ (HF4 _ _ (by decide)) fun u2 hb2=>?_;have HBe:=Fe (HBe.trans (hb2.mono HBe.size));have HG:=Fe (cell_below HG hb2);clear hb2 hHeld;go_wp2_with fail;refine hK.out _ _ (⟨HCE _ HBe,HG⟩) (fun hHeld=> ?_);clear hK K;try simp only[Act.put,bn4,bn2,bn1,bm7,bm8,bm9]
   refine tkH_ (i:=21) (v:=_) rfl (by kernel_rfl) (fun _ _ _ h=>h) (bo1 ⟨by rfl,fun wz hSz=>by go_simp<;>with_reducible rfl⟩) hHeld ?_;try simp only[Act.put,bn4,bn2,bn1,bm7,bm8,bm9]
  all_goals
   refine wpAnyH_ready (rs:=[22]) (by kernel_rfl) (by simp) ?_;refine AllReadyH.cons rfl (fun K hK=> ?_) AllReadyH.nil;go_simp
   have HE:=Fe (HBe.alloc HBe.size (.cells #[.int .u8 53,.string ⟨#[kb]⟩,.int .u8 54,.string (F4 167772161),.int .u8 51,.string (F4 h.gK),.int .u8 1,.string ⟨#[255,255,255,0]⟩,.int .u8 3,.string (F4 167772161)] 138));have HG:=Fe (cell_below HG ((bn9 _ _).alloc (bn7 _) (.cells #[.int .u8 53,.string ⟨#[kb]⟩,.int .u8 54,.string (F4 167772161),.int .u8 51,.string (F4 h.gK),.int .u8 1,.string ⟨#[255,255,255,0]⟩,.int .u8 3,.string (F4 167772161)] 138)));clear hHeld;refine hK.out _ _ (⟨HCE _ HE,HG⟩) (fun hHeld=> ?_);clear hK K;try simp only[Act.put,bn4,bn2,bn1,bm7,bm8,bm9]
   refine tkH_ (i:=23) (v:=_) rfl (by kernel_rfl) (fun _ _ _ h=>h) (bo1 ⟨by rfl,fun wz hSz=>by go_simp<;>with_reducible rfl⟩) hHeld ?_;try simp only[Act.put,bn4,bn2,bn1,bm7,bm8,bm9]
   refine wpAnyH_ready (rs:=[24]) (by kernel_rfl) (by simp) ?_;refine AllReadyH.cons rfl (fun K hK=> ?_) AllReadyH.nil;go_simp
   refine on_ (HWD _ _ (by first|exact bn3 _ _|exact jq _ _ _)) fun u9 hb9=>?_;have HF:=Fe (HE.trans (hb9.mono HE.size));have HG:=Fe (cell_below HG hb9);clear hb9 hHeld;go_wp2_with fail;refine hK.out _ _ (⟨HCE _ HF,HG⟩) (fun hHeld=> ?_);clear hK K;try simp only[Act.put,bn4,bn2,bn1,bm7,bm8,bm9]
   refine tkH_ (i:=25) (v:=_) rfl (by kernel_rfl) (fun _ _ _ h=>h) (bo1 ⟨by rfl,fun wz hSz=>by go_simp<;>with_reducible rfl⟩) hHeld ?_;try simp only[Act.put,bn4,bn2,bn1,bm7,bm8,bm9]
   refine tkH_ (i:=26) (v:=_) rfl (by kernel_rfl) (fun _ _ _ h=>h) (bo1 ⟨by rfl,fun wz hSz=>by go_simp<;>with_reducible rfl⟩) hHeld ?_;try simp only[Act.put,bn4,bn2,bn1,bm7,bm8,bm9]
   refine tkH_ (i:=27) (v:=_) rfl (by kernel_rfl) (fun _ _ _ h=>h) (bo1 ⟨by rfl,fun wz hSz=>by go_simp<;>with_reducible rfl⟩) hHeld ?_;try simp only[Act.put,bn4,bn2,bn1,bm7,bm8,bm9]
   refine tkH_ (i:=28) (v:=_) rfl (by kernel_rfl) (fun _ _ _ h=>h) (bo1 ⟨by rfl,fun wz hSz=>by go_simp<;>with_reducible rfl⟩) hHeld ?_;try simp only[Act.put,bn4,bn2,bn1,bm7,bm8,bm9]
   refine tkH_ (i:=29) (v:=(.int .i64 ek)) rfl (by kernel_rfl) (fun _ _ _ h=>h) (bo1 ⟨by rfl,?_⟩) hHeld ?_
   ·(intro wz hSz;go_simp)
   try simp only[Act.put,bn4,bn2,bn1,bm7,bm8,bm9]
   refine bw0 (by kernel_rfl) ?_ _;go_wp2;go_meet;exact⟨rfl,Fe (HX2.below HF)⟩
 rename fV=>wd;obtain⟨rfl,HX3⟩:=hcut;clear HX2;obtain⟨fr,hfr⟩:=ex_ (h.frame 67 68 aB 167772161 167772215);have HWR:Hid (∀u,Dx w u H h d cs (.slice sa os.length sc) os->f_ Vh 70 #[p_ H,.agg #[.int .u16 67,.int .u16 68,.string aB],.int .u32 167772161,.int .u32 167772215] u fun ee w'=>ee=.returned (.string fr)/\Dx w w' H h.Ww d cs (.slice sa os.length sc) os):=Fe (fun u hu=>by
  refine(Zj hu.at' hu.cd hH0 hH1 67 68 167772161 167772215 aB (by decide) (by decide) (by decide) (by decide) ?_).mono ?_
  ·rw[haB]
   exact bo6 (ad6 _ _ _ _ _ _ _) (by decide)
  rintro ee w' ⟨rfl,k6,t6⟩
  exact⟨by rw[hfr],hu.host hlt hH0 hH1 k6 t6⟩)
 have HOQ:Hid (∀u,(∃h',Dx w u H h' d cs (.slice sa os.length sc) os)->f_ Vh 67 #[.slice sa os.length sc,.int .u8 53] u fun e w'=>e=.returned (.string ⟨#[q]⟩)/\gm u.heap.size u w'):=Fe (fun u ⟨h',hu⟩=>by
  have z:=Ii sa sc os 53 u (xw hu.own) hol
  rw[hq]at z
  exact z)
 have HCE:Hid (∀u,(∃h',Dx w u H h' d cs (.slice sa os.length sc) os)->u.cell? (a_ d 11)=some (.slice sa os.length sc)):=Fe (fun u ⟨h',hu⟩=>by rw[bn0 u _ 11 _ _ _ hu.b1,hcs];rfl);have HFR:=Fe hfr;have HAB:=Fe haB;have HV:Hid (Dx w wd H h d cs (.slice sa os.length sc) os):=HX3;have HK5:Hid (kb=5->(kI==5)=true):=Fe (fun e=>by rw[gB HKI,e];rfl);clear hfr haB hq hcmp HBD HBQ0 HOP;go_wp2_with fail
 rcases hqk with⟨rfl,rfl⟩|⟨rfl,rfl⟩
 all_goals
  try have hk5:=HK5 rfl
  refine wp_region_held_drew (S:=fun u=>u.cell? (a_ d 11)=some (.slice sa os.length sc)) (by kernel_rfl) (HCE _ ⟨_,HV.below ((bn9 _ _).drew)⟩) (fun hHeld=> ?_);refine tkH_ (i:=0) (v:=_) rfl (by kernel_rfl) (fun _ _ _ h=>h) (bo1 ⟨by rfl,fun wz hSz=>by go_simp<;>with_reducible rfl⟩) hHeld ?_;try simp only[Act.put,bn4,bn2,bn1,bm7,bm8,bm9]
  refine tkH_ (i:=1) (v:=_) rfl (by kernel_rfl) (fun _ _ _ h=>h) (bo1 ⟨by rfl,fun wz hSz=>by go_simp<;>with_reducible rfl⟩) hHeld ?_;try simp only[Act.put,bn4,bn2,bn1,bm7,bm8,bm9]
  refine tkH_ (i:=2) (v:=_) rfl (by kernel_rfl) (fun _ _ _ h=>h) (bo1 ⟨by rfl,fun wz hSz=>by go_simp<;>with_reducible rfl⟩) hHeld ?_;try simp only[Act.put,bn4,bn2,bn1,bm7,bm8,bm9]
  refine tkH_ (i:=5) (v:=_) rfl (by kernel_rfl) (fun _ _ _ h=>h) (bo1 ⟨by rfl,fun wz hSz=>by go_simp<;>with_reducible rfl⟩) hHeld ?_;try simp only[Act.put,bn4,bn2,bn1,bm7,bm8,bm9]
  refine tkH_ (i:=6) (v:=_) rfl (by kernel_rfl) (fun _ _ _ h=>h) (bo1 ⟨by rfl,fun wz hSz=>by go_simp<;>with_reducible rfl⟩) hHeld ?_;try simp only[Act.put,bn4,bn2,bn1,bm7,bm8,bm9]
  refine wpAnyH_ready (rs:=[3]) (by kernel_rfl) (by simp) ?_;refine AllReadyH.cons rfl (fun K hK=> ?_) AllReadyH.nil;go_simp
  refine on_ (HWR _ (HV.below ((bn9 _ _).drew))) fun u6 h6=>?_;have H6:=Fe h6;clear h6 hHeld;go_wp2_with fail;refine hK.out _ _ (HCE _ ⟨_,H6⟩) (fun hHeld=> ?_);clear hK K;try simp only[Act.put,bn4,bn2,bn1,bm7,bm8,bm9]
  refine wpAnyH_ready (rs:=[4,7]) (by kernel_rfl) (by simp) ?_;refine AllReadyH.cons rfl (fun K hK=> ?_) (AllReadyH.cons rfl (fun K hK=> ?_) AllReadyH.nil);case' refine_1=>
   go_simp
   have HO:=Fe (Dm _ fr H6.tn.size);have H6:=Fe (H6.below ((bn9 _ _).alloc (bn7 _) (.cells #[.string fr] 9)));clear hHeld;refine hK.out _ _ (HCE _ ⟨_,H6⟩) (fun hHeld=> ?_);clear hK K;try simp only[Act.put,bn4,bn2,bn1,bm7,bm8,bm9]
   refine wpAnyH_ready (rs:=[7]) (by kernel_rfl) (by simp) ?_;refine AllReadyH.cons rfl (fun K hK=> ?_) AllReadyH.nil;go_simp
   refine on_ (HOQ _ ⟨_,H6⟩) fun u7 hb7=>?_;have H6:=Fe (H6.below hb7);have HO:=Fe (iN HO (fun j hj=>hb7.block j (HO.lt j hj).2));clear hb7 hHeld;go_wp2_with fail;refine hK.out _ _ (HCE _ ⟨_,H6⟩) (fun hHeld=> ?_);clear hK K;try simp only[Act.put,bn4,bn2,bn1,bm7,bm8,bm9]
  case' refine_2=>
   go_simp
   refine on_ (HOQ _ ⟨_,H6⟩) fun u7 hb7=>?_;have H6:=Fe (H6.below hb7);clear hb7 hHeld;go_wp2_with fail;refine hK.out _ _ (HCE _ ⟨_,H6⟩) (fun hHeld=> ?_);clear hK K;try simp only[Act.put,bn4,bn2,bn1,bm7,bm8,bm9]
  all_goals
   refine tkH_ (i:=8) (v:=_) rfl (by kernel_rfl) (fun _ _ _ h=>h) (bo1 ⟨by rfl,fun wz hSz=>by go_simp<;>with_reducible rfl⟩) hHeld ?_;try simp only[Act.put,bn4,bn2,bn1,bm7,bm8,bm9]
   refine tkH_ (i:=9) (v:=_) rfl (by kernel_rfl) (fun _ _ _ h=>h) (bo1 ⟨by rfl,fun wz hSz=>by go_simp<;>with_reducible rfl⟩) hHeld ?_;try simp only[Act.put,bn4,bn2,bn1,bm7,bm8,bm9]
   first|(refine tkH_ (i:=10) (v:=_) rfl (by kernel_rfl) (fun _ _ _ h=>h) (bo1 ⟨by rfl,fun wz hSz=>by go_simp<;>with_reducible rfl⟩) hHeld ?_)|(refine tkH_ (i:=10) (v:=undef) rfl (by kernel_rfl) (fun _ _ _ h=>h) (bo3 ⟨by rfl,rfl⟩) hHeld ?_)
   try simp only[Act.put,bn4,bn2,bn1,bm7,bm8,bm9]
   first|(refine tkH_ (i:=11) (v:=_) rfl (by kernel_rfl) (fun _ _ _ h=>h) (bo1 ⟨by rfl,fun wz hSz=>by go_simp<;>with_reducible rfl⟩) hHeld ?_)|(refine tkH_ (i:=11) (v:=undef) rfl (by kernel_rfl) (fun _ _ _ h=>h) (bo3 ⟨by rfl,rfl⟩) hHeld ?_)
   try simp only[Act.put,bn4,bn2,bn1,bm7,bm8,bm9]
   refine tkH_ (i:=12) (v:=_) rfl (by kernel_rfl) (fun _ _ _ h=>h) (bo1 ⟨by rfl,fun wz hSz=>by go_simp<;>with_reducible rfl⟩) hHeld ?_;try simp only[Act.put,bn4,bn2,bn1,bm7,bm8,bm9]
  case' refine_2=>
   refine wpAnyH_ready (rs:=[4]) (by kernel_rfl) (by simp) ?_;refine AllReadyH.cons rfl (fun K hK=> ?_) AllReadyH.nil;go_simp
   have HO:=Fe (Dm _ fr H6.tn.size);have H6:=Fe (H6.below ((bn9 _ _).alloc (bn7 _) (.cells #[.string fr] 9)));clear hHeld;refine hK.out _ _ (HCE _ ⟨_,H6⟩) (fun hHeld=> ?_);clear hK K;try simp only[Act.put,bn4,bn2,bn1,bm7,bm8,bm9]
  all_goals
   refine tkH_ (i:=13) (v:=_) rfl (by kernel_rfl) (fun _ _ _ h=>h) (bo1 ⟨by rfl,fun wz hSz=>by go_simp<;>with_reducible rfl⟩) hHeld ?_;try simp only[Act.put,bn4,bn2,bn1,bm7,bm8,bm9]
   refine tkH_ (i:=14) (v:=(.bool true)) rfl (by kernel_rfl) (fun _ _ _ h=>h) (bo1 ⟨by rfl,?_⟩) hHeld ?_
   ·(intro wz hSz;go_simp)
   try simp only[Act.put,bn4,bn2,bn1,bm7,bm8,bm9]
   refine bw0 (by kernel_rfl) ?_ _;go_wp2;go_ret2;refine⟨_,rfl,?_,H6.at',H6.tn⟩;rw[<-gB HAB,<-gB HFR];exact HO
end Ho
namespace Ho
open Bs Js
variable{w0 w w':fV} {P:Nat→Prop} {Q B H G:Nat} {m m':Mc} {h h':Host} {K:Nat→Nat}
def nx(m:Mc)(s:ByteArray):Mc:=(m.put s).jP
theorem Zq{s:ByteArray}(hq:m.cq=[])(hr:0<m.rx):(m.put s).cq=[s]:=by
 unfold Mc.put;rw[hq,bp0 (by simpa using hr)];rfl
theorem Y9{s:ByteArray}(hq:m.cq=[])(hr:0<m.rx):nx m s={m with cf:=(m.cf+1)%m.rx}:=by
 cases m
 dsimp only at hq hr;subst hq;unfold nx Mc.put;rw[bp0 (by simpa using hr)];rfl
theorem Xi(m:Mc):m.taken.gq=[]:=by
 show m.gq.drop m.gq.length=[];exact bD9
end Ho
namespace Ho
open Bs Js
variable{w0 w w':fV} {P:Nat→Prop} {Q B H G:Nat} {m m':Mc} {h h':Host} {K:Nat→Nat} {s:List UInt8} {wn:Nat} {img:ByteArray}
def YX(id gF:Int)(kb:UInt8)(os:Dh.gU):ByteArray:=og.ni [255,255,255,255,255,255,2,0,0,0,0,42] 2048 (Ip.Db id 64 17 0 4294967295 (Ud.sH 68 67 0 4294967295 (Dh.nH false gF 0 0 0 [2,0,0,0,0,42] (kY kb os))))
def ad8(h:Host)(gF:Int)(kb:UInt8):ByteArray:=h.frame 67 68 (Dh.nH true gF 0 167772215 h.next [2,0,0,0,0,42] (Ws kb (Xm 167772161) (Xm h.gK))) 167772161 167772215
theorem Yk(h:Host)(f t fr ta:Int)(L:ByteArray):(h.frame f t L fr ta).size<=2000:=by
 unfold Host.frame;have h1:(Ud.sH f t fr ta L).size<=1480:=WI _ _ _ _ _;have h2:=ah0 h.Ww.id fr ta _ h1;have h3:=(Xj 2 0 0 0 0 42 2 0 0 0 0 7 2048 _ (by decide) h2).2;exact bo6 h3 (by decide)
theorem ab6(h:Host)(gF:Int)(kb:UInt8):(ad8 h gF kb).size<=2000:=by
 unfold ad8;exact Yk _ _ _ _ _ _
theorem an9(kb:UInt8)(gF:Int):(Dh.mr false gF 0 0 0 [2,0,0,0,0,42] (kY 1 [])).length<=1472/\(Dh.mr false gF 0 0 0 [2,0,0,0,0,42] (kY 3 [(50,g_ 167772215),(54,g_ 167772161)])).length<=1472:=by
 constructor
 ·unfold Dh.mr
  rw[bn6,bn6,Dh.jY _ _ _ _ _ _ _ rfl];simp[kY,Dh.jb,Dh.mq,jH]
 unfold Dh.mr;rw[bn6,bn6,Dh.jY _ _ _ _ _ _ _ rfl];simp[kY,Dh.jb,Dh.mq,jH,g_,iY,iy]
def Yg:ByteArray:=og.ni [255,255,255,255,255,255,2,0,0,0,0,42] 2054 (WM.vE 1 [2,0,0,0,0,42] 0 [0,0,0,0,0,0] 167772215)
def aN3:Dh.gU:=Ws 5 [10,0,0,1] [255,255,255,255]
theorem BL(x:Int)(h:0<=x/\x<=100000):wrap64 x=x:=by
 unfold wrap64;omega
def az1:ByteArray:=og.ni [255,255,255,255,255,255,2,0,0,0,0,42] 2054 (WM.vE 1 [2,0,0,0,0,42] 167772215 [0,0,0,0,0,0] 167772161)
def aB9:ByteArray:=og.ni [2,0,0,0,0,42,2,0,0,0,0,7] 2054 (WM.vE 2 [2,0,0,0,0,7] 167772161 [2,0,0,0,0,42] 167772215)
def rZ(i fp tp:Int)(L:ByteArray):ByteArray:=og.ni [2,0,0,0,0,7,2,0,0,0,0,42] 2048 (Ip.Db i 64 17 167772215 167772161 (Ud.sH fp tp 167772215 167772161 L))
theorem aj2:aB9.size<=2000:=by
 unfold aB9;exact bo6 (Xj 2 0 0 0 0 42 2 0 0 0 0 7 2054 _ (by decide) (Yz _ _ _ _ _ _ _ _ _ _ _ _ _ _ _)).2 (by decide)
theorem aA8(d:DataW Unit)(x:Nb)(hd:d=x.d):Room (.map [(.int .u32 167772161,d)]) 167772161:=
 ⟨by decide,⟨x,by rw[hd];rfl⟩,bo1 rfl,fun d=>(show 1<=4 by decide)⟩
end Ho
end Go.Proofs.YtdgacidndknceaaGreatDoor
