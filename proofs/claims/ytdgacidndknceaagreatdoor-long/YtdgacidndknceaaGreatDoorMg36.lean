import Derived.Test.YtdgacidndknceaaGreatDoorMg30
import Derived.Test.YtdgacidndknceaaGreatDoorMg39
set_option linter.all false
set_option maxHeartbeats 8000000
set_option maxRecDepth 10000
open Go.ChangeShapes Go.WideShapes Go.ChangeAt Go.RowKit
open Go renaming World → fV, Calls → f_
open Go.RowKit renaming Below → gm
open Go.Proofs.Tryz renaming prog → Vh
open Go.Value renaming int → Vb
open Go.IntKind renaming u8 → Vd, u16 → Ve, u32 → Vf, i64 → Vg
open Go.Proofs.Tryz
namespace Go.Proofs.YtdgacidndknceaaGreatDoor
namespace Ho
open Bs Js
variable{w w' u u':fV} {H:Nat} {h h':Host}
structure Dx (w u:fV) (H:Nat) (h:Host) (d:Nat) (cs:Array Value) (v:Value) (os:Dh.gU):Prop where
 at':At u H h
 cd:NA u
 tn:PU w u H
 b1:u.heap[d]?=some (.cells cs 132 (0,0))
 hi:w.heap.size<=d
 own:u.ownsRow w.heap.size 138 2 v os.length (Dh.gT os)
variable{d:Nat} {cs:Array Value} {v:Value} {os:Dh.gU}
theorem Dx.below(b:Dx w u H h d cs v os)(hb:gm u.heap.size u u'):Dx w u' H h d cs v os:=
 ⟨b.at'.below hb,b.cd.below hb,Sd b.tn hb,(hb.block _ (gG b.b1)).trans b.b1,b.hi,iN b.own (fun j hj=>hb.block j (b.own.lt j hj).2)⟩
theorem Dx.host(b:Dx w u H h d cs v os)(hH:H<w.heap.size)(h0:(0:Nat)≠H)(h1:(1:Nat)≠H)(k:At u' H h')(tn:PU u u' H):Dx w u' H h' d cs v os:=
 ⟨k,b.cd.of (tn.block _ b.cd.lt.1 h0) (tn.block _ b.cd.lt.2 h1),⟨tn.os.trans b.tn.os,tn.tape.trans b.tn.tape,tn.output.trans b.tn.output,aG b.tn.size tn.size,fun j hj hn=>(tn.block j (aQ hj b.tn.size) hn).trans (b.tn.block j hj hn)⟩,(tn.block _ (gG b.b1) (by have:=b.hi;omega)).trans b.b1,b.hi,iN b.own (fun j hj=>tn.block j (b.own.lt j hj).2 (by have:=(b.own.lt j hj).1;omega))⟩
end Ho
namespace Ho
open Bs Js
variable{w w' u u':fV} {H:Nat} {h h':Host}
theorem ax9(kb:UInt8)(sv le:List UInt8)(j:Nat):(#[Vb Vd 53,.string ⟨#[kb]⟩,Vb Vd 54,.string ⟨sv.toArray⟩,Vb Vd 51,.string ⟨le.toArray⟩,Vb Vd 1,.string ⟨#[255,255,255,0]⟩,Vb Vd 3,.string ⟨sv.toArray⟩]:Array Value)[j]?=(Dh.gT (Ws kb sv le))[j]?:=by
 rw[<-dZ]
 rfl
theorem av8(k:At w H h)(c:NA w)(hH0:(0:Nat)≠H)(hH1:(1:Nat)≠H)(f t:Int)(L:ByteArray)(gF cl yo ne:Int)(os:Dh.gU)(kb q:UInt8)(hq:Y2 os 53=[q])(hqk:q=1/\kb=2∨q=3/\kb=5)(hol:os.length<=1000)(hx:0<=gF/\gF<=4294967295)(hn:0<=h.next/\h.next<=4294967295)(hle:0<=h.gK/\h.gK<=4294967295)
  (hR:∀u,f_ Vh 66 #[.string L] u fun ee w'=>Lp.IE os.length (Dh.gT os) u (fun sa sc=>.tuple #[.agg #[.bool false,Vb Vf gF,Vb Vf cl,Vb Vf yo,Vb Vf ne,Vb Vd 2,Vb Vd 0,Vb Vd 0,Vb Vd 0,Vb Vd 0,Vb Vd 42,.slice sa os.length sc],Vb Vg 0]) ee w'):
  f_ Vh 40 #[p_ H,.agg #[Vb Ve f,Vb Ve t,.string L]] w fun ee w'=>∃g,ee=.returned (.tuple #[.slice (some (a_ g 0)) 1 1,.bool true])/\w'.ownsRow w.heap.size 9 1 (.slice (some (a_ g 0)) 1 1) 1 [.string (h.frame 67 68 (Dh.nH true gF 0 167772215 h.next [2,0,0,0,0,42] (Ws kb (Xm 167772161) (Xm h.gK))) 167772161 167772215)]/\At w' H h.Ww/\PU w w' H:=by
 have hlt:=gG k
 have HR:=M0 hR
 have HK:=M0 k
 have HC:=M0 c
 clear hR k c
 go_enter func40,ntmps40
 go_wp2_with fail
 refine(HR _).mono ?_
 rintro ee u1 ⟨sa,sc,rfl,o1,hb1⟩
 obtain⟨cs,hcs⟩:∃cs:Array Value,cs=#[.bool false,Vb Vf gF,Vb Vf cl,Vb Vf yo,Vb Vf ne,Vb Vd 2,Vb Vd 0,Vb Vd 0,Vb Vd 0,Vb Vd 0,Vb Vd 42,.slice sa os.length sc]:=⟨_,rfl⟩
 obtain⟨X,hX⟩:∃X,X=u1.alloc (.cells #[.bool false,Vb Vf gF,Vb Vf cl,Vb Vf yo,Vb Vf ne,Vb Vd 2,Vb Vd 0,Vb Vd 0,Vb Vd 0,Vb Vd 0,Vb Vd 42,.slice sa os.length sc] 132):=⟨_,rfl⟩
 obtain⟨d,hd⟩:∃d,d=u1.heap.size:=⟨_,rfl⟩
 have HX:Hid (Dx w X H h d cs (.slice sa os.length sc) os):=M0 (by
  have hb0:gm w.heap.size w (w.alloc (.cells #[Vb Ve f,Vb Ve t,.string L] 69)):=(R9 _ _).alloc (ai _) _
  have hb2:gm u1.heap.size u1 X:=by rw[hX];exact(R9 _ _).alloc (ai _) _
  have hb3:=hb0.trans (hb1.mono hb0.size)
  have hb4:=hb3.trans (hb2.mono hb3.size)
  refine⟨HK.below hb4,HC.below hb4,⟨hb4.os,hb4.tape,hb4.output,hb4.size,fun j hj _=>hb4.block j hj⟩,by rw[hX,hd,hcs];exact G8 u1 _,by rw[hd];exact hb3.size,?_⟩
  have o2:=iN o1 (w':=X) (fun j hj=>hb2.block j (o1.lt j hj).2)
  exact⟨o2.1,o2.2.imp id (fun⟨g,cap,cur,e1,e2,e3⟩=>⟨g,cap,cur,e1,aG hb0.size e2,e3⟩)⟩)
 have HC1:Hid (NA u1):=M0 (by
  have hb0:gm w.heap.size w (w.alloc (.cells #[Vb Ve f,Vb Ve t,.string L] 69)):=(R9 _ _).alloc (ai _) _
  exact HC.below (hb0.trans (hb1.mono hb0.size)))
 obtain⟨g0,g1,g2,g3,g4,g5,_⟩:=gB HC1
 have hc0:=HC1.lt.1
 have hc1:(0:Nat)≠u1.heap.size:=eG hc0
 have hmq:∀u,(Op.equalIn 10000 30 (.agg #[Vb Vd 2,Vb Vd 0,Vb Vd 0,Vb Vd 0,Vb Vd 0,Vb Vd 42]) (.agg #[Vb Vd 2,Vb Vd 0,Vb Vd 0,Vb Vd 0,Vb Vd 0,Vb Vd 42])).run Vh u=.ok true u:=fun u=>Sq.Yx 9998 2 0 0 0 0 42 u
 have HOP:Hid (∀u,Dx w u H h d cs (.slice sa os.length sc) os->f_ Vh 67 #[.slice sa os.length sc,Vb Vd 53] u fun e w'=>e=.returned (.string ⟨#[q]⟩)/\gm u.heap.size u w'):=M0 (fun u hu=>by
  have z:=Ii sa sc os 53 u (xw hu.own) hol
  rw[hq]at z
  exact z)
 clear o1 hb1 HK HC HR HC1
 have HBD:Hid ((q==3)=decide (kb=5)):=M0 (by rcases hqk with⟨rfl,rfl⟩|⟨rfl,rfl⟩<;>decide)
 obtain⟨bq,hbq⟩:∃bq:Bool,bq=(q==3):=⟨_,rfl⟩
 have hcmp:((⟨#[q]⟩:ByteArray).toList==(⟨#[3]⟩:ByteArray).toList)=bq:=by
  rw[hbq,Vw,Vw]
  simp
 obtain⟨kI,hkI⟩:∃kI:Int,kI=(kb.toNat:Int):=⟨_,rfl⟩
 have HKI:=M0 hkI
 have HBQ:Hid (bq=true/\kI=5∨bq=false/\kI=2):=M0 (by
  rcases hqk with⟨rfl,rfl⟩|⟨rfl,rfl⟩
  ·exact aA ⟨by rw[hbq];decide,by rw[hkI];decide⟩
  ·exact au ⟨by rw[hbq];decide,by rw[hkI];decide⟩)
 have HD:=M0 hd
 have HBQ0:=M0 hbq
 clear hbq hkI hd
 go_upto_region 5 with fail
 rw[<-hX,<-gB HD]
 clear g0 g1 g2 g3 g4 g5 hc0 hc1 hX hmq
 have e6:X.cell? (a_ d 11)=some (.slice sa os.length sc):=by rw[dh X _ 11 _ _ _ HX.b1,hcs];rfl
 go_cut [32] (fun v wc=>v=.bool bq/\Hid (Dx w wc H h d cs (.slice sa os.length sc) os))
 case first=>
  go_wp2_with fail
  refine(HOP _ HX).mono ?_
  rintro ee u2 ⟨rfl,hb2⟩
  have HX2:=M0 (HX.below hb2)
  clear hb2 HX e6
  go_wp2
  go_meet
  exact⟨by rw[gB HBQ0],HX2⟩
 case rest=>
  rename fV=>wc
  obtain⟨rfl,HX2⟩:=hcut
  clear HX e6
  go_upto_if 32 with fail
  go_cut [8] (fun v wd=>v=Vb Vd kI/\wd=wc)
  case first=>
   rcases gB HBQ with⟨rfl,e⟩|⟨rfl,e⟩
   ·go_wp2
    go_meet
    exact⟨by rw[e],rfl⟩
   ·go_wp2
    go_meet
    exact⟨by rw[e],rfl⟩
  case rest=>
   obtain⟨rfl,rfl⟩:=hcut
   obtain⟨aB,haB⟩:∃aB:ByteArray,aB=Dh.nH true gF 0 167772215 h.next [2,0,0,0,0,42] (Ws kb (Xm 167772161) (Xm h.gK)):=⟨_,rfl⟩
   go_upto_region 7 with fail
   go_cut [9] (fun v wd=>v=.string aB/\Hid (Dx w wd H h d cs (.slice sa os.length sc) os))
   case first=>
    obtain⟨F4,hF4⟩:∃F4:Int->ByteArray,F4=fun x=>⟨(Xm x).toArray⟩:=⟨_,rfl⟩
    have HF4:Hid (∀(u:fV) (x:Int),0<=x/\x<=4294967295->f_ Vh 69 #[Vb Vf x] u fun e w'=>e=.returned (.string (F4 x))/\gm u.heap.size u w'):=M0 (fun u x hx=>by rw[hF4];exact aB3 x hx u)
    have HV:=HX2
    obtain⟨V,hV⟩:∃V,V=wc:=⟨_,rfl⟩
    rw[<-hV]at HX2 ⊢
    clear hV HV
    have HCE:Hid (∀u,gm V.heap.size V u->u.cell? (a_ d 1)=some (Vb Vf gF)/\u.cell? (a_ H 2)=some (Vb Vf h.next)/\u.cell? (a_ H 1)=some (Vb Vf h.gK)/\u.cell? (a_ 0 0)=some (Vb Vd 2)/\u.cell? (a_ 0 1)=some (Vb Vd 0)/\u.cell? (a_ 0 2)=some (Vb Vd 0)/\u.cell? (a_ 0 3)=some (Vb Vd 0)/\u.cell? (a_ 0 4)=some (Vb Vd 0)/\u.cell? (a_ 0 5)=some (Vb Vd 42)):=M0 (fun u hu=>by
     have b:=HX2.below hu
     obtain⟨g0,g1,g2,g3,g4,g5,_⟩:=b.cd
     exact⟨by rw[dh u _ 1 _ _ _ b.b1,hcs];rfl,b.at'.cell 2,b.at'.cell 1,g0,g1,g2,g3,g4,g5⟩)
    have HCV:Hid (∀(u:fV) (g:Nat),u.cell? (a_ g 0)=some (Vb Vd kI)->(convert 73 9 (.slice (some (a_ g 0)) 1 1)).run Vh u=.ok (.string ⟨#[kb]⟩) u):=M0 (fun u g hg=>by
     have z:=Zf kb.toNat kb.toNat_lt u g (by rw[hg,gB HKI])
     rw[UInt8.ofNat_toNat]at z
     exact z)
    obtain⟨ek,hek⟩:∃ek:Int,ek=Dh.r_ true gF 0 167772215 h.next [2,0,0,0,0,42] (Ws kb (Xm 167772161) (Xm h.gK)):=⟨_,rfl⟩
    have HWD:Hid (∀(u:fV) (g:Nat),u.heap[g]?=some (.cells #[Vb Vd 53,.string ⟨#[kb]⟩,Vb Vd 54,.string (F4 167772161),Vb Vd 51,.string (F4 h.gK),Vb Vd 1,.string ⟨#[255,255,255,0]⟩,Vb Vd 3,.string (F4 167772161)] 138 (0,0))->f_ Vh 68 #[.agg #[.bool true,Vb Vf gF,Vb Vf 0,Vb Vf 167772215,Vb Vf h.next,Vb Vd 2,Vb Vd 0,Vb Vd 0,Vb Vd 0,Vb Vd 0,Vb Vd 42,.slice (some (a_ g 0)) 5 5]] u fun e w'=>e=.returned (.tuple #[.string aB,Vb Vg ek])/\gm u.heap.size u w'):=M0 (fun u g hg=>by
     rw[haB,hek]
     refine Dh.Wj true gF 0 167772215 h.next 2 0 0 0 0 42 (some (a_ g 0)) 5 (Ws kb (Xm 167772161) (Xm h.gK)) u hx (by decide) (by decide) hn ?_ ?_
     ·refine Dh.At.Jr (fun j x hj=> ?_)
      have hadd:((a_ g 0):Addr).add j=(a_ g j):=jB g j
      rw[hadd,dh u _ j _ _ _ hg,<-hj,hF4]
      exact ax9 kb _ _ j
     ·simp[Ws,Dh.heavy,Xm])
    clear hF4 hek haB hcmp
    refine wp_region_held_drew (S:=fun u=>u.cell? (a_ d 1)=some (Vb Vf gF)/\u.cell? (a_ H 2)=some (Vb Vf h.next)/\u.cell? (a_ H 1)=some (Vb Vf h.gK)/\u.cell? (a_ 0 0)=some (Vb Vd 2)/\u.cell? (a_ 0 1)=some (Vb Vd 0)/\u.cell? (a_ 0 2)=some (Vb Vd 0)/\u.cell? (a_ 0 3)=some (Vb Vd 0)/\u.cell? (a_ 0 4)=some (Vb Vd 0)/\u.cell? (a_ 0 5)=some (Vb Vd 42)) (by kernel_rfl) (HCE _ ((R9 _ _).drew)) (fun hHeld=> ?_)
    have HB0:Hid (gm V.heap.size V V.drew):=M0 ((R9 _ _).drew)
    refine Vo (i:=0) (v:=(.pointer (some (a_ d 1)))) rfl (by kernel_rfl) (by kernel_rfl) (by kernel_rfl) (fun _ _ _ h=>h) (au ⟨by rfl,?_⟩) hHeld ?_
    ·(intro wz hSz;(try dsimp only at hSz);go_simp)
    try simp only[Act.put,eD,dQ,dP,ae,ah,af]
    refine tkH_ (i:=1) (v:=(Vb Vf gF)) rfl (by kernel_rfl) (fun _ _ _ h=>h) (au ⟨by rfl,?_⟩) hHeld ?_
    ·(intro wz hSz;(try dsimp only at hSz);go_simp)
    try simp only[Act.put,eD,dQ,dP,ae,ah,af]
    refine tkH_ (i:=2) (v:=(p_ H)) rfl (by kernel_rfl) (fun _ _ _ h=>h) (au ⟨by rfl,?_⟩) hHeld ?_
    ·(intro wz hSz;(try dsimp only at hSz);go_simp)
    try simp only[Act.put,eD,dQ,dP,ae,ah,af]
    refine tkH_ (i:=3) (v:=(p_ H)) rfl (by kernel_rfl) (fun _ _ _ h=>h) (au ⟨by rfl,?_⟩) hHeld ?_
    ·(intro wz hSz;(try dsimp only at hSz);go_simp)
    try simp only[Act.put,eD,dQ,dP,ae,ah,af]
    refine Vo (i:=4) (v:=(.pointer (some (a_ H 2)))) rfl (by kernel_rfl) (by kernel_rfl) (by kernel_rfl) (fun _ _ _ h=>h) (au ⟨by rfl,?_⟩) hHeld ?_
    ·(intro wz hSz;(try dsimp only at hSz);go_simp)
    try simp only[Act.put,eD,dQ,dP,ae,ah,af]
    refine tkH_ (i:=5) (v:=(Vb Vf h.next)) rfl (by kernel_rfl) (fun _ _ _ h=>h) (au ⟨by rfl,?_⟩) hHeld ?_
    ·(intro wz hSz;(try dsimp only at hSz);go_simp)
    try simp only[Act.put,eD,dQ,dP,ae,ah,af]
    refine tkH_ (i:=6) (v:=(.agg #[Vb Vd 2,Vb Vd 0,Vb Vd 0,Vb Vd 0,Vb Vd 0,Vb Vd 42])) rfl (by kernel_rfl) (fun _ _ _ h=>h) (au ⟨by rfl,?_⟩) hHeld ?_
    ·(intro wz hSz;(try dsimp only at hSz);go_simp)
    try simp only[Act.put,eD,dQ,dP,ae,ah,af]
    refine tkH_ (i:=7) (v:=(Vb Vd kI)) rfl (by kernel_rfl) (fun _ _ _ h=>h) (au ⟨by rfl,?_⟩) hHeld ?_
    ·(intro wz hSz;(try dsimp only at hSz);go_simp)
    try simp only[Act.put,eD,dQ,dP,ae,ah,af]
    refine tkH_ (i:=13) (v:=(p_ H)) rfl (by kernel_rfl) (fun _ _ _ h=>h) (au ⟨by rfl,?_⟩) hHeld ?_
    ·(intro wz hSz;(try dsimp only at hSz);go_simp)
    try simp only[Act.put,eD,dQ,dP,ae,ah,af]
    refine tkH_ (i:=14) (v:=(p_ H)) rfl (by kernel_rfl) (fun _ _ _ h=>h) (au ⟨by rfl,?_⟩) hHeld ?_
    ·(intro wz hSz;(try dsimp only at hSz);go_simp)
    try simp only[Act.put,eD,dQ,dP,ae,ah,af]
    refine Vo (i:=15) (v:=(.pointer (some (a_ H 1)))) rfl (by kernel_rfl) (by kernel_rfl) (by kernel_rfl) (fun _ _ _ h=>h) (au ⟨by rfl,?_⟩) hHeld ?_
    ·(intro wz hSz;(try dsimp only at hSz);go_simp)
    try simp only[Act.put,eD,dQ,dP,ae,ah,af]
    refine tkH_ (i:=16) (v:=(Vb Vf h.gK)) rfl (by kernel_rfl) (fun _ _ _ h=>h) (au ⟨by rfl,?_⟩) hHeld ?_
    ·(intro wz hSz;(try dsimp only at hSz);go_simp)
    try simp only[Act.put,eD,dQ,dP,ae,ah,af]
    refine tkH_ (i:=19) (v:=(.agg #[Vb Vd 1,.string ⟨#[255,255,255,0]⟩])) rfl (by kernel_rfl) (fun _ _ _ h=>h) (au ⟨by rfl,?_⟩) hHeld ?_
    ·(intro wz hSz;(try dsimp only at hSz);go_simp)
    try simp only[Act.put,eD,dQ,dP,ae,ah,af]
    refine wpAnyH_ready (rs:=[8,11]) (by kernel_rfl) (by simp) ?_
    refine AllReadyH.cons rfl (fun K hK=> ?_) (AllReadyH.cons rfl (fun K hK=> ?_) AllReadyH.nil)
    ·go_simp
     have HB0_8:Hid (gm V.heap.size V ((V.drew).alloc (.cells #[Vb Vd kI] 5))):=M0 (HB0.alloc HB0.size _)
     have HG:Hid (World.cell? ((V.drew).alloc (.cells #[Vb Vd kI] 5)) (a_ ((V).heap.size) 0)=some (Vb Vd kI)):=M0 (dh _ _ 0 _ _ _ (G8 _ _))
     clear hHeld
     refine hK.out _ _ ?_ (fun hHeld=> ?_)
     ·exact HCE _ HB0_8
     clear hK K
     try simp only[Act.put,eD,dQ,dP,ae,ah,af]
     refine Wh (S':=fun u=>(u.cell? (a_ d 1)=some (Vb Vf gF)/\u.cell? (a_ H 2)=some (Vb Vf h.next)/\u.cell? (a_ H 1)=some (Vb Vf h.gK)/\u.cell? (a_ 0 0)=some (Vb Vd 2)/\u.cell? (a_ 0 1)=some (Vb Vd 0)/\u.cell? (a_ 0 2)=some (Vb Vd 0)/\u.cell? (a_ 0 3)=some (Vb Vd 0)/\u.cell? (a_ 0 4)=some (Vb Vd 0)/\u.cell? (a_ 0 5)=some (Vb Vd 42))/\u.cell? (a_ ((V).heap.size) 0)=some (Vb Vd kI)) (fun _ h=>h.1) _ _ _ _ ?_
     replace hHeld:_/\_:=⟨hHeld,HG⟩
     refine tkH_ (i:=9) (v:=(.string ⟨#[kb]⟩)) rfl (by kernel_rfl) (fun _ _ _ h=>h) (au ⟨by rfl,?_⟩) hHeld ?_
     ·(intro wz hSz;(try dsimp only at hSz);(have hcv:=HCV wz _ hSz.2;go_simp))
     try simp only[Act.put,eD,dQ,dP,ae,ah,af]
     refine tkH_ (i:=10) (v:=(.agg #[Vb Vd 53,.string ⟨#[kb]⟩])) rfl (by kernel_rfl) (fun _ _ _ h=>h) (au ⟨by rfl,?_⟩) hHeld ?_
     ·(intro wz hSz;(try dsimp only at hSz);go_simp)
     try simp only[Act.put,eD,dQ,dP,ae,ah,af]
     refine wpAnyH_ready (rs:=[11]) (by kernel_rfl) (by simp) ?_
     refine AllReadyH.cons rfl (fun K hK=> ?_) AllReadyH.nil
     ·go_simp
      refine bE (HF4 _ _ (by decide)) ?_
      rintro ee u1_11 ⟨rfl,hb2⟩
      have HB1_11:Hid (gm V.heap.size V u1_11):=M0 (HB0_8.trans (hb2.mono HB0_8.size))
      have HG:Hid (World.cell? u1_11 (a_ ((V).heap.size) 0)=some (Vb Vd kI)):=M0 (cell_below HG hb2)
      clear hb2 hHeld
      go_wp2_with fail
      refine hK.out _ _ ?_ (fun hHeld=> ?_)
      ·exact⟨HCE _ HB1_11,HG⟩
      clear hK K
      try simp only[Act.put,eD,dQ,dP,ae,ah,af]
      refine Vo (i:=12) (v:=(.agg #[Vb Vd 54,.string (F4 167772161)])) rfl (by kernel_rfl) (by kernel_rfl) (by kernel_rfl) (fun _ _ _ h=>h) (au ⟨by rfl,?_⟩) hHeld ?_
      ·(intro wz hSz;(try dsimp only at hSz);go_simp)
      try simp only[Act.put,eD,dQ,dP,ae,ah,af]
      refine wpAnyH_ready (rs:=[17]) (by kernel_rfl) (by simp) ?_
      refine AllReadyH.cons rfl (fun K hK=> ?_) AllReadyH.nil
      ·go_simp
       refine bE (HF4 _ _ hle) ?_
       rintro ee u2_17 ⟨rfl,hb2⟩
       have HB2_17:Hid (gm V.heap.size V u2_17):=M0 (HB1_11.trans (hb2.mono HB1_11.size))
       have HG:Hid (World.cell? u2_17 (a_ ((V).heap.size) 0)=some (Vb Vd kI)):=M0 (cell_below HG hb2)
       clear hb2 hHeld
       go_wp2_with fail
       refine hK.out _ _ ?_ (fun hHeld=> ?_)
       ·exact⟨HCE _ HB2_17,HG⟩
       clear hK K
       try simp only[Act.put,eD,dQ,dP,ae,ah,af]
       refine Vo (i:=18) (v:=(.agg #[Vb Vd 51,.string (F4 h.gK)])) rfl (by kernel_rfl) (by kernel_rfl) (by kernel_rfl) (fun _ _ _ h=>h) (au ⟨by rfl,?_⟩) hHeld ?_
       ·(intro wz hSz;(try dsimp only at hSz);go_simp)
       try simp only[Act.put,eD,dQ,dP,ae,ah,af]
       refine wpAnyH_ready (rs:=[20]) (by kernel_rfl) (by simp) ?_
       refine AllReadyH.cons rfl (fun K hK=> ?_) AllReadyH.nil
       ·go_simp
        refine bE (HF4 _ _ (by decide)) ?_
        rintro ee u3_20 ⟨rfl,hb2⟩
        have HB3_20:Hid (gm V.heap.size V u3_20):=M0 (HB2_17.trans (hb2.mono HB2_17.size))
        have HG:Hid (World.cell? u3_20 (a_ ((V).heap.size) 0)=some (Vb Vd kI)):=M0 (cell_below HG hb2)
        clear hb2 hHeld
        go_wp2_with fail
        refine hK.out _ _ ?_ (fun hHeld=> ?_)
        ·exact⟨HCE _ HB3_20,HG⟩
        clear hK K
        try simp only[Act.put,eD,dQ,dP,ae,ah,af]
        refine Vo (i:=21) (v:=(.agg #[Vb Vd 3,.string (F4 167772161)])) rfl (by kernel_rfl) (by kernel_rfl) (by kernel_rfl) (fun _ _ _ h=>h) (au ⟨by rfl,?_⟩) hHeld ?_
        ·(intro wz hSz;(try dsimp only at hSz);go_simp)
        try simp only[Act.put,eD,dQ,dP,ae,ah,af]
        refine wpAnyH_ready (rs:=[22]) (by kernel_rfl) (by simp) ?_
        refine AllReadyH.cons rfl (fun K hK=> ?_) AllReadyH.nil
        go_simp
        have HE:Hid (gm V.heap.size V ((u3_20).alloc (.cells #[Vb Vd 53,.string ⟨#[kb]⟩,Vb Vd 54,.string (F4 167772161),Vb Vd 51,.string (F4 h.gK),Vb Vd 1,.string ⟨#[255,255,255,0]⟩,Vb Vd 3,.string (F4 167772161)] 138))):=M0 (HB3_20.alloc HB3_20.size _)
        have HG2:Hid (World.cell? ((u3_20).alloc (.cells #[Vb Vd 53,.string ⟨#[kb]⟩,Vb Vd 54,.string (F4 167772161),Vb Vd 51,.string (F4 h.gK),Vb Vd 1,.string ⟨#[255,255,255,0]⟩,Vb Vd 3,.string (F4 167772161)] 138)) (a_ ((V).heap.size) 0)=some (Vb Vd kI)):=M0 (cell_below HG ((R9 _ _).alloc (ai _) _))
        clear hHeld
        refine hK.out _ _ ?_ (fun hHeld=> ?_)
        ·exact⟨HCE _ HE,HG2⟩
        clear hK K
        try simp only[Act.put,eD,dQ,dP,ae,ah,af]
        refine Vo (i:=23) (v:=(.agg #[.bool true,Vb Vf gF,Vb Vf 0,Vb Vf 167772215,Vb Vf h.next,Vb Vd 2,Vb Vd 0,Vb Vd 0,Vb Vd 0,Vb Vd 0,Vb Vd 42,.slice (some (a_ ((u3_20).heap.size) 0)) 5 5])) rfl (by kernel_rfl) (by kernel_rfl) (by kernel_rfl) (fun _ _ _ h=>h) (au ⟨by rfl,?_⟩) hHeld ?_
        ·(intro wz hSz;(try dsimp only at hSz);go_simp)
        try simp only[Act.put,eD,dQ,dP,ae,ah,af]
        refine wpAnyH_ready (rs:=[24]) (by kernel_rfl) (by simp) ?_
        refine AllReadyH.cons rfl (fun K hK=> ?_) AllReadyH.nil
        go_simp
        refine bE (HWD _ _ (G8 _ _)) ?_
        rintro ee u9 ⟨rfl,hb9⟩
        have HF:Hid (gm V.heap.size V u9):=M0 (HE.trans (hb9.mono HE.size))
        have HG3:Hid (u9.cell? (a_ ((V).heap.size) 0)=some (Vb Vd kI)):=M0 (cell_below HG2 hb9)
        clear hb9 hHeld
        go_wp2_with fail
        refine hK.out _ _ ?_ (fun hHeld=> ?_)
        ·exact⟨HCE _ HF,HG3⟩
        clear hK K
        try simp only[Act.put,eD,dQ,dP,ae,ah,af]
        refine tkH_ (i:=25) (v:=(.tuple #[.string aB,Vb Vg ek])) rfl (by kernel_rfl) (fun _ _ _ h=>h) (au ⟨by rfl,?_⟩) hHeld ?_
        ·(intro wz hSz;(try dsimp only at hSz);go_simp)
        try simp only[Act.put,eD,dQ,dP,ae,ah,af]
        refine tkH_ (i:=26) (v:=(.string aB)) rfl (by kernel_rfl) (fun _ _ _ h=>h) (au ⟨by rfl,?_⟩) hHeld ?_
        ·(intro wz hSz;(try dsimp only at hSz);go_simp)
        try simp only[Act.put,eD,dQ,dP,ae,ah,af]
        refine tkH_ (i:=27) (v:=(Vb Vg ek)) rfl (by kernel_rfl) (fun _ _ _ h=>h) (au ⟨by rfl,?_⟩) hHeld ?_
        ·(intro wz hSz;(try dsimp only at hSz);go_simp)
        try simp only[Act.put,eD,dQ,dP,ae,ah,af]
        refine tkH_ (i:=28) (v:=(.string aB)) rfl (by kernel_rfl) (fun _ _ _ h=>h) (au ⟨by rfl,?_⟩) hHeld ?_
        ·(intro wz hSz;(try dsimp only at hSz);go_simp)
        try simp only[Act.put,eD,dQ,dP,ae,ah,af]
        refine tkH_ (i:=29) (v:=(Vb Vg ek)) rfl (by kernel_rfl) (fun _ _ _ h=>h) (au ⟨by rfl,?_⟩) hHeld ?_
        ·(intro wz hSz;(try dsimp only at hSz);go_simp)
        try simp only[Act.put,eD,dQ,dP,ae,ah,af]
        refine VG (by kernel_rfl) ?_ _
        go_wp2
        go_meet
        exact⟨rfl,M0 (HX2.below HF)⟩
    ·go_simp
     refine bE (HF4 _ _ (by decide)) ?_
     rintro ee u0_11 ⟨rfl,hb2⟩
     have HB0_11:Hid (gm V.heap.size V u0_11):=M0 (HB0.trans (hb2.mono HB0.size))
     clear hb2 hHeld
     go_wp2_with fail
     refine hK.out _ _ ?_ (fun hHeld=> ?_)
     ·exact HCE _ HB0_11
     clear hK K
     try simp only[Act.put,eD,dQ,dP,ae,ah,af]
     refine Vo (i:=12) (v:=(.agg #[Vb Vd 54,.string (F4 167772161)])) rfl (by kernel_rfl) (by kernel_rfl) (by kernel_rfl) (fun _ _ _ h=>h) (au ⟨by rfl,?_⟩) hHeld ?_
     ·(intro wz hSz;(try dsimp only at hSz);go_simp)
     try simp only[Act.put,eD,dQ,dP,ae,ah,af]
     refine wpAnyH_ready (rs:=[8,17]) (by kernel_rfl) (by simp) ?_
     refine AllReadyH.cons rfl (fun K hK=> ?_) (AllReadyH.cons rfl (fun K hK=> ?_) AllReadyH.nil)
     ·go_simp
      have HB1_8:Hid (gm V.heap.size V ((u0_11).alloc (.cells #[Vb Vd kI] 5))):=M0 (HB0_11.alloc HB0_11.size _)
      have HG:Hid (World.cell? ((u0_11).alloc (.cells #[Vb Vd kI] 5)) (a_ ((u0_11).heap.size) 0)=some (Vb Vd kI)):=M0 (dh _ _ 0 _ _ _ (G8 _ _))
      clear hHeld
      refine hK.out _ _ ?_ (fun hHeld=> ?_)
      ·exact HCE _ HB1_8
      clear hK K
      try simp only[Act.put,eD,dQ,dP,ae,ah,af]
      refine Wh (S':=fun u=>(u.cell? (a_ d 1)=some (Vb Vf gF)/\u.cell? (a_ H 2)=some (Vb Vf h.next)/\u.cell? (a_ H 1)=some (Vb Vf h.gK)/\u.cell? (a_ 0 0)=some (Vb Vd 2)/\u.cell? (a_ 0 1)=some (Vb Vd 0)/\u.cell? (a_ 0 2)=some (Vb Vd 0)/\u.cell? (a_ 0 3)=some (Vb Vd 0)/\u.cell? (a_ 0 4)=some (Vb Vd 0)/\u.cell? (a_ 0 5)=some (Vb Vd 42))/\u.cell? (a_ ((u0_11).heap.size) 0)=some (Vb Vd kI)) (fun _ h=>h.1) _ _ _ _ ?_
      replace hHeld:_/\_:=⟨hHeld,HG⟩
      refine tkH_ (i:=9) (v:=(.string ⟨#[kb]⟩)) rfl (by kernel_rfl) (fun _ _ _ h=>h) (au ⟨by rfl,?_⟩) hHeld ?_
      ·(intro wz hSz;(try dsimp only at hSz);(have hcv:=HCV wz _ hSz.2;go_simp))
      try simp only[Act.put,eD,dQ,dP,ae,ah,af]
      refine tkH_ (i:=10) (v:=(.agg #[Vb Vd 53,.string ⟨#[kb]⟩])) rfl (by kernel_rfl) (fun _ _ _ h=>h) (au ⟨by rfl,?_⟩) hHeld ?_
      ·(intro wz hSz;(try dsimp only at hSz);go_simp)
      try simp only[Act.put,eD,dQ,dP,ae,ah,af]
      refine wpAnyH_ready (rs:=[17]) (by kernel_rfl) (by simp) ?_
      refine AllReadyH.cons rfl (fun K hK=> ?_) AllReadyH.nil
      ·go_simp
       refine bE (HF4 _ _ hle) ?_
       rintro ee u2_17 ⟨rfl,hb2⟩
       have HB2_17:Hid (gm V.heap.size V u2_17):=M0 (HB1_8.trans (hb2.mono HB1_8.size))
       have HG:Hid (World.cell? u2_17 (a_ ((u0_11).heap.size) 0)=some (Vb Vd kI)):=M0 (cell_below HG hb2)
       clear hb2 hHeld
       go_wp2_with fail
       refine hK.out _ _ ?_ (fun hHeld=> ?_)
       ·exact⟨HCE _ HB2_17,HG⟩
       clear hK K
       try simp only[Act.put,eD,dQ,dP,ae,ah,af]
       refine Vo (i:=18) (v:=(.agg #[Vb Vd 51,.string (F4 h.gK)])) rfl (by kernel_rfl) (by kernel_rfl) (by kernel_rfl) (fun _ _ _ h=>h) (au ⟨by rfl,?_⟩) hHeld ?_
       ·(intro wz hSz;(try dsimp only at hSz);go_simp)
       try simp only[Act.put,eD,dQ,dP,ae,ah,af]
       refine wpAnyH_ready (rs:=[20]) (by kernel_rfl) (by simp) ?_
       refine AllReadyH.cons rfl (fun K hK=> ?_) AllReadyH.nil
       ·go_simp
        refine bE (HF4 _ _ (by decide)) ?_
        rintro ee u3_20 ⟨rfl,hb2⟩
        have HB3_20:Hid (gm V.heap.size V u3_20):=M0 (HB2_17.trans (hb2.mono HB2_17.size))
        have HG:Hid (World.cell? u3_20 (a_ ((u0_11).heap.size) 0)=some (Vb Vd kI)):=M0 (cell_below HG hb2)
        clear hb2 hHeld
        go_wp2_with fail
        refine hK.out _ _ ?_ (fun hHeld=> ?_)
        ·exact⟨HCE _ HB3_20,HG⟩
        clear hK K
        try simp only[Act.put,eD,dQ,dP,ae,ah,af]
        refine Vo (i:=21) (v:=(.agg #[Vb Vd 3,.string (F4 167772161)])) rfl (by kernel_rfl) (by kernel_rfl) (by kernel_rfl) (fun _ _ _ h=>h) (au ⟨by rfl,?_⟩) hHeld ?_
        ·(intro wz hSz;(try dsimp only at hSz);go_simp)
        try simp only[Act.put,eD,dQ,dP,ae,ah,af]
        refine wpAnyH_ready (rs:=[22]) (by kernel_rfl) (by simp) ?_
        refine AllReadyH.cons rfl (fun K hK=> ?_) AllReadyH.nil
        go_simp
        have HE:Hid (gm V.heap.size V ((u3_20).alloc (.cells #[Vb Vd 53,.string ⟨#[kb]⟩,Vb Vd 54,.string (F4 167772161),Vb Vd 51,.string (F4 h.gK),Vb Vd 1,.string ⟨#[255,255,255,0]⟩,Vb Vd 3,.string (F4 167772161)] 138))):=M0 (HB3_20.alloc HB3_20.size _)
        have HG2:Hid (World.cell? ((u3_20).alloc (.cells #[Vb Vd 53,.string ⟨#[kb]⟩,Vb Vd 54,.string (F4 167772161),Vb Vd 51,.string (F4 h.gK),Vb Vd 1,.string ⟨#[255,255,255,0]⟩,Vb Vd 3,.string (F4 167772161)] 138)) (a_ ((u0_11).heap.size) 0)=some (Vb Vd kI)):=M0 (cell_below HG ((R9 _ _).alloc (ai _) _))
        clear hHeld
        refine hK.out _ _ ?_ (fun hHeld=> ?_)
        ·exact⟨HCE _ HE,HG2⟩
        clear hK K
        try simp only[Act.put,eD,dQ,dP,ae,ah,af]
        refine Vo (i:=23) (v:=(.agg #[.bool true,Vb Vf gF,Vb Vf 0,Vb Vf 167772215,Vb Vf h.next,Vb Vd 2,Vb Vd 0,Vb Vd 0,Vb Vd 0,Vb Vd 0,Vb Vd 42,.slice (some (a_ ((u3_20).heap.size) 0)) 5 5])) rfl (by kernel_rfl) (by kernel_rfl) (by kernel_rfl) (fun _ _ _ h=>h) (au ⟨by rfl,?_⟩) hHeld ?_
        ·(intro wz hSz;(try dsimp only at hSz);go_simp)
        try simp only[Act.put,eD,dQ,dP,ae,ah,af]
        refine wpAnyH_ready (rs:=[24]) (by kernel_rfl) (by simp) ?_
        refine AllReadyH.cons rfl (fun K hK=> ?_) AllReadyH.nil
        go_simp
        refine bE (HWD _ _ (G8 _ _)) ?_
        rintro ee u9 ⟨rfl,hb9⟩
        have HF:Hid (gm V.heap.size V u9):=M0 (HE.trans (hb9.mono HE.size))
        have HG3:Hid (u9.cell? (a_ ((u0_11).heap.size) 0)=some (Vb Vd kI)):=M0 (cell_below HG2 hb9)
        clear hb9 hHeld
        go_wp2_with fail
        refine hK.out _ _ ?_ (fun hHeld=> ?_)
        ·exact⟨HCE _ HF,HG3⟩
        clear hK K
        try simp only[Act.put,eD,dQ,dP,ae,ah,af]
        refine tkH_ (i:=25) (v:=(.tuple #[.string aB,Vb Vg ek])) rfl (by kernel_rfl) (fun _ _ _ h=>h) (au ⟨by rfl,?_⟩) hHeld ?_
        ·(intro wz hSz;(try dsimp only at hSz);go_simp)
        try simp only[Act.put,eD,dQ,dP,ae,ah,af]
        refine tkH_ (i:=26) (v:=(.string aB)) rfl (by kernel_rfl) (fun _ _ _ h=>h) (au ⟨by rfl,?_⟩) hHeld ?_
        ·(intro wz hSz;(try dsimp only at hSz);go_simp)
        try simp only[Act.put,eD,dQ,dP,ae,ah,af]
        refine tkH_ (i:=27) (v:=(Vb Vg ek)) rfl (by kernel_rfl) (fun _ _ _ h=>h) (au ⟨by rfl,?_⟩) hHeld ?_
        ·(intro wz hSz;(try dsimp only at hSz);go_simp)
        try simp only[Act.put,eD,dQ,dP,ae,ah,af]
        refine tkH_ (i:=28) (v:=(.string aB)) rfl (by kernel_rfl) (fun _ _ _ h=>h) (au ⟨by rfl,?_⟩) hHeld ?_
        ·(intro wz hSz;(try dsimp only at hSz);go_simp)
        try simp only[Act.put,eD,dQ,dP,ae,ah,af]
        refine tkH_ (i:=29) (v:=(Vb Vg ek)) rfl (by kernel_rfl) (fun _ _ _ h=>h) (au ⟨by rfl,?_⟩) hHeld ?_
        ·(intro wz hSz;(try dsimp only at hSz);go_simp)
        try simp only[Act.put,eD,dQ,dP,ae,ah,af]
        refine VG (by kernel_rfl) ?_ _
        go_wp2
        go_meet
        exact⟨rfl,M0 (HX2.below HF)⟩
     ·go_simp
      refine bE (HF4 _ _ hle) ?_
      rintro ee u1_17 ⟨rfl,hb2⟩
      have HB1_17:Hid (gm V.heap.size V u1_17):=M0 (HB0_11.trans (hb2.mono HB0_11.size))
      clear hb2 hHeld
      go_wp2_with fail
      refine hK.out _ _ ?_ (fun hHeld=> ?_)
      ·exact HCE _ HB1_17
      clear hK K
      try simp only[Act.put,eD,dQ,dP,ae,ah,af]
      refine Vo (i:=18) (v:=(.agg #[Vb Vd 51,.string (F4 h.gK)])) rfl (by kernel_rfl) (by kernel_rfl) (by kernel_rfl) (fun _ _ _ h=>h) (au ⟨by rfl,?_⟩) hHeld ?_
      ·(intro wz hSz;(try dsimp only at hSz);go_simp)
      try simp only[Act.put,eD,dQ,dP,ae,ah,af]
      refine wpAnyH_ready (rs:=[8,20]) (by kernel_rfl) (by simp) ?_
      refine AllReadyH.cons rfl (fun K hK=> ?_) (AllReadyH.cons rfl (fun K hK=> ?_) AllReadyH.nil)
      ·go_simp
       have HB2_8:Hid (gm V.heap.size V ((u1_17).alloc (.cells #[Vb Vd kI] 5))):=M0 (HB1_17.alloc HB1_17.size _)
       have HG:Hid (World.cell? ((u1_17).alloc (.cells #[Vb Vd kI] 5)) (a_ ((u1_17).heap.size) 0)=some (Vb Vd kI)):=M0 (dh _ _ 0 _ _ _ (G8 _ _))
       clear hHeld
       refine hK.out _ _ ?_ (fun hHeld=> ?_)
       ·exact HCE _ HB2_8
       clear hK K
       try simp only[Act.put,eD,dQ,dP,ae,ah,af]
       refine Wh (S':=fun u=>(u.cell? (a_ d 1)=some (Vb Vf gF)/\u.cell? (a_ H 2)=some (Vb Vf h.next)/\u.cell? (a_ H 1)=some (Vb Vf h.gK)/\u.cell? (a_ 0 0)=some (Vb Vd 2)/\u.cell? (a_ 0 1)=some (Vb Vd 0)/\u.cell? (a_ 0 2)=some (Vb Vd 0)/\u.cell? (a_ 0 3)=some (Vb Vd 0)/\u.cell? (a_ 0 4)=some (Vb Vd 0)/\u.cell? (a_ 0 5)=some (Vb Vd 42))/\u.cell? (a_ ((u1_17).heap.size) 0)=some (Vb Vd kI)) (fun _ h=>h.1) _ _ _ _ ?_
       replace hHeld:_/\_:=⟨hHeld,HG⟩
       refine tkH_ (i:=9) (v:=(.string ⟨#[kb]⟩)) rfl (by kernel_rfl) (fun _ _ _ h=>h) (au ⟨by rfl,?_⟩) hHeld ?_
       ·(intro wz hSz;(try dsimp only at hSz);(have hcv:=HCV wz _ hSz.2;go_simp))
       try simp only[Act.put,eD,dQ,dP,ae,ah,af]
       refine tkH_ (i:=10) (v:=(.agg #[Vb Vd 53,.string ⟨#[kb]⟩])) rfl (by kernel_rfl) (fun _ _ _ h=>h) (au ⟨by rfl,?_⟩) hHeld ?_
       ·(intro wz hSz;(try dsimp only at hSz);go_simp)
       try simp only[Act.put,eD,dQ,dP,ae,ah,af]
       refine wpAnyH_ready (rs:=[20]) (by kernel_rfl) (by simp) ?_
       refine AllReadyH.cons rfl (fun K hK=> ?_) AllReadyH.nil
       ·go_simp
        refine bE (HF4 _ _ (by decide)) ?_
        rintro ee u3_20 ⟨rfl,hb2⟩
        have HB3_20:Hid (gm V.heap.size V u3_20):=M0 (HB2_8.trans (hb2.mono HB2_8.size))
        have HG:Hid (World.cell? u3_20 (a_ ((u1_17).heap.size) 0)=some (Vb Vd kI)):=M0 (cell_below HG hb2)
        clear hb2 hHeld
        go_wp2_with fail
        refine hK.out _ _ ?_ (fun hHeld=> ?_)
        ·exact⟨HCE _ HB3_20,HG⟩
        clear hK K
        try simp only[Act.put,eD,dQ,dP,ae,ah,af]
        refine Vo (i:=21) (v:=(.agg #[Vb Vd 3,.string (F4 167772161)])) rfl (by kernel_rfl) (by kernel_rfl) (by kernel_rfl) (fun _ _ _ h=>h) (au ⟨by rfl,?_⟩) hHeld ?_
        ·(intro wz hSz;(try dsimp only at hSz);go_simp)
        try simp only[Act.put,eD,dQ,dP,ae,ah,af]
        refine wpAnyH_ready (rs:=[22]) (by kernel_rfl) (by simp) ?_
        refine AllReadyH.cons rfl (fun K hK=> ?_) AllReadyH.nil
        go_simp
        have HE:Hid (gm V.heap.size V ((u3_20).alloc (.cells #[Vb Vd 53,.string ⟨#[kb]⟩,Vb Vd 54,.string (F4 167772161),Vb Vd 51,.string (F4 h.gK),Vb Vd 1,.string ⟨#[255,255,255,0]⟩,Vb Vd 3,.string (F4 167772161)] 138))):=M0 (HB3_20.alloc HB3_20.size _)
        have HG2:Hid (World.cell? ((u3_20).alloc (.cells #[Vb Vd 53,.string ⟨#[kb]⟩,Vb Vd 54,.string (F4 167772161),Vb Vd 51,.string (F4 h.gK),Vb Vd 1,.string ⟨#[255,255,255,0]⟩,Vb Vd 3,.string (F4 167772161)] 138)) (a_ ((u1_17).heap.size) 0)=some (Vb Vd kI)):=M0 (cell_below HG ((R9 _ _).alloc (ai _) _))
        clear hHeld
        refine hK.out _ _ ?_ (fun hHeld=> ?_)
        ·exact⟨HCE _ HE,HG2⟩
        clear hK K
        try simp only[Act.put,eD,dQ,dP,ae,ah,af]
        refine Vo (i:=23) (v:=(.agg #[.bool true,Vb Vf gF,Vb Vf 0,Vb Vf 167772215,Vb Vf h.next,Vb Vd 2,Vb Vd 0,Vb Vd 0,Vb Vd 0,Vb Vd 0,Vb Vd 42,.slice (some (a_ ((u3_20).heap.size) 0)) 5 5])) rfl (by kernel_rfl) (by kernel_rfl) (by kernel_rfl) (fun _ _ _ h=>h) (au ⟨by rfl,?_⟩) hHeld ?_
        ·(intro wz hSz;(try dsimp only at hSz);go_simp)
        try simp only[Act.put,eD,dQ,dP,ae,ah,af]
        refine wpAnyH_ready (rs:=[24]) (by kernel_rfl) (by simp) ?_
        refine AllReadyH.cons rfl (fun K hK=> ?_) AllReadyH.nil
        go_simp
        refine bE (HWD _ _ (G8 _ _)) ?_
        rintro ee u9 ⟨rfl,hb9⟩
        have HF:Hid (gm V.heap.size V u9):=M0 (HE.trans (hb9.mono HE.size))
        have HG3:Hid (u9.cell? (a_ ((u1_17).heap.size) 0)=some (Vb Vd kI)):=M0 (cell_below HG2 hb9)
        clear hb9 hHeld
        go_wp2_with fail
        refine hK.out _ _ ?_ (fun hHeld=> ?_)
        ·exact⟨HCE _ HF,HG3⟩
        clear hK K
        try simp only[Act.put,eD,dQ,dP,ae,ah,af]
        refine tkH_ (i:=25) (v:=(.tuple #[.string aB,Vb Vg ek])) rfl (by kernel_rfl) (fun _ _ _ h=>h) (au ⟨by rfl,?_⟩) hHeld ?_
        ·(intro wz hSz;(try dsimp only at hSz);go_simp)
        try simp only[Act.put,eD,dQ,dP,ae,ah,af]
        refine tkH_ (i:=26) (v:=(.string aB)) rfl (by kernel_rfl) (fun _ _ _ h=>h) (au ⟨by rfl,?_⟩) hHeld ?_
        ·(intro wz hSz;(try dsimp only at hSz);go_simp)
        try simp only[Act.put,eD,dQ,dP,ae,ah,af]
        refine tkH_ (i:=27) (v:=(Vb Vg ek)) rfl (by kernel_rfl) (fun _ _ _ h=>h) (au ⟨by rfl,?_⟩) hHeld ?_
        ·(intro wz hSz;(try dsimp only at hSz);go_simp)
        try simp only[Act.put,eD,dQ,dP,ae,ah,af]
        refine tkH_ (i:=28) (v:=(.string aB)) rfl (by kernel_rfl) (fun _ _ _ h=>h) (au ⟨by rfl,?_⟩) hHeld ?_
        ·(intro wz hSz;(try dsimp only at hSz);go_simp)
        try simp only[Act.put,eD,dQ,dP,ae,ah,af]
        refine tkH_ (i:=29) (v:=(Vb Vg ek)) rfl (by kernel_rfl) (fun _ _ _ h=>h) (au ⟨by rfl,?_⟩) hHeld ?_
        ·(intro wz hSz;(try dsimp only at hSz);go_simp)
        try simp only[Act.put,eD,dQ,dP,ae,ah,af]
        refine VG (by kernel_rfl) ?_ _
        go_wp2
        go_meet
        exact⟨rfl,M0 (HX2.below HF)⟩
      ·go_simp
       refine bE (HF4 _ _ (by decide)) ?_
       rintro ee u2_20 ⟨rfl,hb2⟩
       have HB2_20:Hid (gm V.heap.size V u2_20):=M0 (HB1_17.trans (hb2.mono HB1_17.size))
       clear hb2 hHeld
       go_wp2_with fail
       refine hK.out _ _ ?_ (fun hHeld=> ?_)
       ·exact HCE _ HB2_20
       clear hK K
       try simp only[Act.put,eD,dQ,dP,ae,ah,af]
       refine Vo (i:=21) (v:=(.agg #[Vb Vd 3,.string (F4 167772161)])) rfl (by kernel_rfl) (by kernel_rfl) (by kernel_rfl) (fun _ _ _ h=>h) (au ⟨by rfl,?_⟩) hHeld ?_
       ·(intro wz hSz;(try dsimp only at hSz);go_simp)
       try simp only[Act.put,eD,dQ,dP,ae,ah,af]
       refine wpAnyH_ready (rs:=[8]) (by kernel_rfl) (by simp) ?_
       refine AllReadyH.cons rfl (fun K hK=> ?_) AllReadyH.nil
       ·go_simp
        have HB3_8:Hid (gm V.heap.size V ((u2_20).alloc (.cells #[Vb Vd kI] 5))):=M0 (HB2_20.alloc HB2_20.size _)
        have HG:Hid (World.cell? ((u2_20).alloc (.cells #[Vb Vd kI] 5)) (a_ ((u2_20).heap.size) 0)=some (Vb Vd kI)):=M0 (dh _ _ 0 _ _ _ (G8 _ _))
        clear hHeld
        refine hK.out _ _ ?_ (fun hHeld=> ?_)
        ·exact HCE _ HB3_8
        clear hK K
        try simp only[Act.put,eD,dQ,dP,ae,ah,af]
        refine Wh (S':=fun u=>(u.cell? (a_ d 1)=some (Vb Vf gF)/\u.cell? (a_ H 2)=some (Vb Vf h.next)/\u.cell? (a_ H 1)=some (Vb Vf h.gK)/\u.cell? (a_ 0 0)=some (Vb Vd 2)/\u.cell? (a_ 0 1)=some (Vb Vd 0)/\u.cell? (a_ 0 2)=some (Vb Vd 0)/\u.cell? (a_ 0 3)=some (Vb Vd 0)/\u.cell? (a_ 0 4)=some (Vb Vd 0)/\u.cell? (a_ 0 5)=some (Vb Vd 42))/\u.cell? (a_ ((u2_20).heap.size) 0)=some (Vb Vd kI)) (fun _ h=>h.1) _ _ _ _ ?_
        replace hHeld:_/\_:=⟨hHeld,HG⟩
        refine tkH_ (i:=9) (v:=(.string ⟨#[kb]⟩)) rfl (by kernel_rfl) (fun _ _ _ h=>h) (au ⟨by rfl,?_⟩) hHeld ?_
        ·(intro wz hSz;(try dsimp only at hSz);(have hcv:=HCV wz _ hSz.2;go_simp))
        try simp only[Act.put,eD,dQ,dP,ae,ah,af]
        refine tkH_ (i:=10) (v:=(.agg #[Vb Vd 53,.string ⟨#[kb]⟩])) rfl (by kernel_rfl) (fun _ _ _ h=>h) (au ⟨by rfl,?_⟩) hHeld ?_
        ·(intro wz hSz;(try dsimp only at hSz);go_simp)
        try simp only[Act.put,eD,dQ,dP,ae,ah,af]
        refine wpAnyH_ready (rs:=[22]) (by kernel_rfl) (by simp) ?_
        refine AllReadyH.cons rfl (fun K hK=> ?_) AllReadyH.nil
        go_simp
        have HE:Hid (gm V.heap.size V (((u2_20).alloc (.cells #[Vb Vd kI] 5)).alloc (.cells #[Vb Vd 53,.string ⟨#[kb]⟩,Vb Vd 54,.string (F4 167772161),Vb Vd 51,.string (F4 h.gK),Vb Vd 1,.string ⟨#[255,255,255,0]⟩,Vb Vd 3,.string (F4 167772161)] 138))):=M0 (HB3_8.alloc HB3_8.size _)
        have HG2:Hid (World.cell? (((u2_20).alloc (.cells #[Vb Vd kI] 5)).alloc (.cells #[Vb Vd 53,.string ⟨#[kb]⟩,Vb Vd 54,.string (F4 167772161),Vb Vd 51,.string (F4 h.gK),Vb Vd 1,.string ⟨#[255,255,255,0]⟩,Vb Vd 3,.string (F4 167772161)] 138)) (a_ ((u2_20).heap.size) 0)=some (Vb Vd kI)):=M0 (cell_below HG ((R9 _ _).alloc (ai _) _))
        clear hHeld
        refine hK.out _ _ ?_ (fun hHeld=> ?_)
        ·exact⟨HCE _ HE,HG2⟩
        clear hK K
        try simp only[Act.put,eD,dQ,dP,ae,ah,af]
        refine Vo (i:=23) (v:=(.agg #[.bool true,Vb Vf gF,Vb Vf 0,Vb Vf 167772215,Vb Vf h.next,Vb Vd 2,Vb Vd 0,Vb Vd 0,Vb Vd 0,Vb Vd 0,Vb Vd 42,.slice (some (a_ (((u2_20).alloc (.cells #[Vb Vd kI] 5)).heap.size) 0)) 5 5])) rfl (by kernel_rfl) (by kernel_rfl) (by kernel_rfl) (fun _ _ _ h=>h) (au ⟨by rfl,?_⟩) hHeld ?_
        ·(intro wz hSz;(try dsimp only at hSz);go_simp)
        try simp only[Act.put,eD,dQ,dP,ae,ah,af]
        refine wpAnyH_ready (rs:=[24]) (by kernel_rfl) (by simp) ?_
        refine AllReadyH.cons rfl (fun K hK=> ?_) AllReadyH.nil
        go_simp
        refine bE (HWD _ _ (jq _ _ _)) ?_
        rintro ee u9 ⟨rfl,hb9⟩
        have HF:Hid (gm V.heap.size V u9):=M0 (HE.trans (hb9.mono HE.size))
        have HG3:Hid (u9.cell? (a_ ((u2_20).heap.size) 0)=some (Vb Vd kI)):=M0 (cell_below HG2 hb9)
        clear hb9 hHeld
        go_wp2_with fail
        refine hK.out _ _ ?_ (fun hHeld=> ?_)
        ·exact⟨HCE _ HF,HG3⟩
        clear hK K
        try simp only[Act.put,eD,dQ,dP,ae,ah,af]
        refine tkH_ (i:=25) (v:=(.tuple #[.string aB,Vb Vg ek])) rfl (by kernel_rfl) (fun _ _ _ h=>h) (au ⟨by rfl,?_⟩) hHeld ?_
        ·(intro wz hSz;(try dsimp only at hSz);go_simp)
        try simp only[Act.put,eD,dQ,dP,ae,ah,af]
        refine tkH_ (i:=26) (v:=(.string aB)) rfl (by kernel_rfl) (fun _ _ _ h=>h) (au ⟨by rfl,?_⟩) hHeld ?_
        ·(intro wz hSz;(try dsimp only at hSz);go_simp)
        try simp only[Act.put,eD,dQ,dP,ae,ah,af]
        refine tkH_ (i:=27) (v:=(Vb Vg ek)) rfl (by kernel_rfl) (fun _ _ _ h=>h) (au ⟨by rfl,?_⟩) hHeld ?_
        ·(intro wz hSz;(try dsimp only at hSz);go_simp)
        try simp only[Act.put,eD,dQ,dP,ae,ah,af]
        refine tkH_ (i:=28) (v:=(.string aB)) rfl (by kernel_rfl) (fun _ _ _ h=>h) (au ⟨by rfl,?_⟩) hHeld ?_
        ·(intro wz hSz;(try dsimp only at hSz);go_simp)
        try simp only[Act.put,eD,dQ,dP,ae,ah,af]
        refine tkH_ (i:=29) (v:=(Vb Vg ek)) rfl (by kernel_rfl) (fun _ _ _ h=>h) (au ⟨by rfl,?_⟩) hHeld ?_
        ·(intro wz hSz;(try dsimp only at hSz);go_simp)
        try simp only[Act.put,eD,dQ,dP,ae,ah,af]
        refine VG (by kernel_rfl) ?_ _
        go_wp2
        go_meet
        exact⟨rfl,M0 (HX2.below HF)⟩
   case rest=>
    rename fV=>wd
    obtain⟨rfl,HX3⟩:=hcut
    clear HX2
    obtain⟨fr,hfr⟩:∃fr,fr=h.frame 67 68 aB 167772161 167772215:=⟨_,rfl⟩
    have HWR:Hid (∀u,Dx w u H h d cs (.slice sa os.length sc) os->f_ Vh 70 #[p_ H,.agg #[Vb Ve 67,Vb Ve 68,.string aB],Vb Vf 167772161,Vb Vf 167772215] u fun ee w'=>ee=.returned (.string fr)/\Dx w w' H h.Ww d cs (.slice sa os.length sc) os):=M0 (fun u hu=>by
     refine(Zj hu.at' hu.cd hH0 hH1 67 68 167772161 167772215 aB (by decide) (by decide) (by decide) (by decide) ?_).mono ?_
     ·rw[haB]
      exact aG (ad6 _ _ _ _ _ _ _) (by decide)
     ·rintro ee w' ⟨rfl,k6,t6⟩
      exact⟨by rw[hfr],hu.host hlt hH0 hH1 k6 t6⟩)
    have HOQ:Hid (∀u,(∃h',Dx w u H h' d cs (.slice sa os.length sc) os)->f_ Vh 67 #[.slice sa os.length sc,Vb Vd 53] u fun e w'=>e=.returned (.string ⟨#[q]⟩)/\gm u.heap.size u w'):=M0 (fun u ⟨h',hu⟩=>by
     have z:=Ii sa sc os 53 u (xw hu.own) hol
     rw[hq]at z
     exact z)
    have HCE:Hid (∀u,(∃h',Dx w u H h' d cs (.slice sa os.length sc) os)->u.cell? (a_ d 11)=some (.slice sa os.length sc)):=M0 (fun u ⟨h',hu⟩=>by rw[dh u _ 11 _ _ _ hu.b1,hcs];rfl)
    have HFR:=M0 hfr
    have HAB:=M0 haB
    have HV:Hid (Dx w wd H h d cs (.slice sa os.length sc) os):=HX3
    have HK5:Hid (kb=5->(kI==5)=true):=M0 (fun e=>by rw[gB HKI,e];rfl)
    clear hfr haB hq hcmp HBD HBQ0 HOP
    go_wp2_with fail
    rcases hqk with⟨rfl,rfl⟩|⟨rfl,rfl⟩
    ·skip
     refine wp_region_held_drew (S:=fun u=>u.cell? (a_ d 11)=some (.slice sa os.length sc)) (by kernel_rfl) (HCE _ ⟨_,HV.below ((R9 _ _).drew)⟩) (fun hHeld=> ?_)
     refine tkH_ (i:=0) (v:=(p_ H)) rfl (by kernel_rfl) (fun _ _ _ h=>h) (au ⟨by rfl,?_⟩) hHeld ?_
     ·(intro wz hSz;(try dsimp only at hSz);go_simp)
     try simp only[Act.put,eD,dQ,dP,ae,ah,af]
     refine tkH_ (i:=1) (v:=(.string aB)) rfl (by kernel_rfl) (fun _ _ _ h=>h) (au ⟨by rfl,?_⟩) hHeld ?_
     ·(intro wz hSz;(try dsimp only at hSz);go_simp)
     try simp only[Act.put,eD,dQ,dP,ae,ah,af]
     refine tkH_ (i:=2) (v:=(.agg #[Vb Ve 67,Vb Ve 68,.string aB])) rfl (by kernel_rfl) (fun _ _ _ h=>h) (au ⟨by rfl,?_⟩) hHeld ?_
     ·(intro wz hSz;(try dsimp only at hSz);go_simp)
     try simp only[Act.put,eD,dQ,dP,ae,ah,af]
     refine Vo (i:=5) (v:=(.pointer (some (a_ d 11)))) rfl (by kernel_rfl) (by kernel_rfl) (by kernel_rfl) (fun _ _ _ h=>h) (au ⟨by rfl,?_⟩) hHeld ?_
     ·(intro wz hSz;(try dsimp only at hSz);go_simp)
     try simp only[Act.put,eD,dQ,dP,ae,ah,af]
     refine tkH_ (i:=6) (v:=(.slice sa os.length sc)) rfl (by kernel_rfl) (fun _ _ _ h=>h) (au ⟨by rfl,?_⟩) hHeld ?_
     ·(intro wz hSz;(try dsimp only at hSz);go_simp)
     try simp only[Act.put,eD,dQ,dP,ae,ah,af]
     refine wpAnyH_ready (rs:=[3]) (by kernel_rfl) (by simp) ?_
     refine AllReadyH.cons rfl (fun K hK=> ?_) AllReadyH.nil
     go_simp
     refine bE (HWR _ (HV.below ((R9 _ _).drew))) ?_
     rintro ee u6 ⟨rfl,h6⟩
     have H6:=M0 h6
     clear h6 hHeld
     go_wp2_with fail
     refine hK.out _ _ ?_ (fun hHeld=> ?_)
     ·exact HCE _ ⟨_,H6⟩
     clear hK K
     try simp only[Act.put,eD,dQ,dP,ae,ah,af]
     refine wpAnyH_ready (rs:=[4,7]) (by kernel_rfl) (by simp) ?_
     refine AllReadyH.cons rfl (fun K hK=> ?_) (AllReadyH.cons rfl (fun K hK=> ?_) AllReadyH.nil)
     ·go_simp
      have HA:Hid (Dx w (u6.alloc (.cells #[.string fr] 9)) H h.Ww d cs (.slice sa os.length sc) os):=M0 (H6.below ((R9 _ _).alloc (ai _) _))
      have HO:=M0 (Dm u6 fr H6.tn.size)
      clear hHeld
      refine hK.out _ _ ?_ (fun hHeld=> ?_)
      ·exact HCE _ ⟨_,HA⟩
      clear hK K
      try simp only[Act.put,eD,dQ,dP,ae,ah,af]
      refine wpAnyH_ready (rs:=[7]) (by kernel_rfl) (by simp) ?_
      refine AllReadyH.cons rfl (fun K hK=> ?_) AllReadyH.nil
      go_simp
      refine bE (HOQ _ ⟨_,HA⟩) ?_
      rintro ee u7 ⟨rfl,hb7⟩
      have H7:=M0 (HA.below hb7)
      have HO7:=M0 (iN HO (fun j hj=>hb7.block j (HO.lt j hj).2))
      clear hb7 hHeld
      go_wp2_with fail
      refine hK.out _ _ ?_ (fun hHeld=> ?_)
      ·exact HCE _ ⟨_,H7⟩
      clear hK K
      try simp only[Act.put,eD,dQ,dP,ae,ah,af]
      refine tkH_ (i:=8) (v:=(.bool true)) rfl (by kernel_rfl) (fun _ _ _ h=>h) (au ⟨by rfl,?_⟩) hHeld ?_
      ·(intro wz hSz;(try dsimp only at hSz);go_simp)
      try simp only[Act.put,eD,dQ,dP,ae,ah,af]
      refine tkH_ (i:=9) (v:=(.bool true)) rfl (by kernel_rfl) (fun _ _ _ h=>h) (au ⟨by rfl,?_⟩) hHeld ?_
      ·(intro wz hSz;(try dsimp only at hSz);go_simp)
      try simp only[Act.put,eD,dQ,dP,ae,ah,af]
      refine tkH_ (i:=10) (v:=undef) rfl (by kernel_rfl) (fun _ _ _ h=>h) (aA ⟨by rfl,rfl⟩) hHeld ?_
      try simp only[Act.put,eD,dQ,dP,ae,ah,af]
      refine tkH_ (i:=11) (v:=undef) rfl (by kernel_rfl) (fun _ _ _ h=>h) (aA ⟨by rfl,rfl⟩) hHeld ?_
      try simp only[Act.put,eD,dQ,dP,ae,ah,af]
      refine tkH_ (i:=12) (v:=(.bool true)) rfl (by kernel_rfl) (fun _ _ _ h=>h) (au ⟨by rfl,?_⟩) hHeld ?_
      ·(intro wz hSz;(try dsimp only at hSz);go_simp)
      try simp only[Act.put,eD,dQ,dP,ae,ah,af]
      refine Vo (i:=13) (v:=(.slice (some (a_ u6.heap.size 0)) 1 1)) rfl (by kernel_rfl) (by kernel_rfl) (by kernel_rfl) (fun _ _ _ h=>h) (au ⟨by rfl,?_⟩) hHeld ?_
      ·(intro wz hSz;(try dsimp only at hSz);go_simp)
      try simp only[Act.put,eD,dQ,dP,ae,ah,af]
      refine tkH_ (i:=14) (v:=(.bool true)) rfl (by kernel_rfl) (fun _ _ _ h=>h) (au ⟨by rfl,?_⟩) hHeld ?_
      ·(intro wz hSz;(try dsimp only at hSz);go_simp)
      try simp only[Act.put,eD,dQ,dP,ae,ah,af]
      refine VG (by kernel_rfl) ?_ _
      go_wp2
      go_ret2
      refine⟨u6.heap.size,rfl,?_,H7.at',H7.tn⟩
      rw[<-gB HAB,<-gB HFR]
      exact HO7
     ·go_simp
      refine bE (HOQ _ ⟨_,H6⟩) ?_
      rintro ee u7 ⟨rfl,hb7⟩
      have H7:=M0 (H6.below hb7)
      clear hb7 hHeld
      go_wp2_with fail
      refine hK.out _ _ ?_ (fun hHeld=> ?_)
      ·exact HCE _ ⟨_,H7⟩
      clear hK K
      try simp only[Act.put,eD,dQ,dP,ae,ah,af]
      refine tkH_ (i:=8) (v:=(.bool true)) rfl (by kernel_rfl) (fun _ _ _ h=>h) (au ⟨by rfl,?_⟩) hHeld ?_
      ·(intro wz hSz;(try dsimp only at hSz);go_simp)
      try simp only[Act.put,eD,dQ,dP,ae,ah,af]
      refine tkH_ (i:=9) (v:=(.bool true)) rfl (by kernel_rfl) (fun _ _ _ h=>h) (au ⟨by rfl,?_⟩) hHeld ?_
      ·(intro wz hSz;(try dsimp only at hSz);go_simp)
      try simp only[Act.put,eD,dQ,dP,ae,ah,af]
      refine tkH_ (i:=10) (v:=undef) rfl (by kernel_rfl) (fun _ _ _ h=>h) (aA ⟨by rfl,rfl⟩) hHeld ?_
      try simp only[Act.put,eD,dQ,dP,ae,ah,af]
      refine tkH_ (i:=11) (v:=undef) rfl (by kernel_rfl) (fun _ _ _ h=>h) (aA ⟨by rfl,rfl⟩) hHeld ?_
      try simp only[Act.put,eD,dQ,dP,ae,ah,af]
      refine tkH_ (i:=12) (v:=(.bool true)) rfl (by kernel_rfl) (fun _ _ _ h=>h) (au ⟨by rfl,?_⟩) hHeld ?_
      ·(intro wz hSz;(try dsimp only at hSz);go_simp)
      try simp only[Act.put,eD,dQ,dP,ae,ah,af]
      refine wpAnyH_ready (rs:=[4]) (by kernel_rfl) (by simp) ?_
      refine AllReadyH.cons rfl (fun K hK=> ?_) AllReadyH.nil
      go_simp
      have HA:Hid (Dx w (u7.alloc (.cells #[.string fr] 9)) H h.Ww d cs (.slice sa os.length sc) os):=M0 (H7.below ((R9 _ _).alloc (ai _) _))
      have HO:=M0 (Dm u7 fr H7.tn.size)
      clear hHeld
      refine hK.out _ _ ?_ (fun hHeld=> ?_)
      ·exact HCE _ ⟨_,HA⟩
      clear hK K
      try simp only[Act.put,eD,dQ,dP,ae,ah,af]
      refine Vo (i:=13) (v:=(.slice (some (a_ u7.heap.size 0)) 1 1)) rfl (by kernel_rfl) (by kernel_rfl) (by kernel_rfl) (fun _ _ _ h=>h) (au ⟨by rfl,?_⟩) hHeld ?_
      ·(intro wz hSz;(try dsimp only at hSz);go_simp)
      try simp only[Act.put,eD,dQ,dP,ae,ah,af]
      refine tkH_ (i:=14) (v:=(.bool true)) rfl (by kernel_rfl) (fun _ _ _ h=>h) (au ⟨by rfl,?_⟩) hHeld ?_
      ·(intro wz hSz;(try dsimp only at hSz);go_simp)
      try simp only[Act.put,eD,dQ,dP,ae,ah,af]
      refine VG (by kernel_rfl) ?_ _
      go_wp2
      go_ret2
      refine⟨u7.heap.size,rfl,?_,HA.at',HA.tn⟩
      rw[<-gB HAB,<-gB HFR]
      exact HO
    ·have hk5:=HK5 rfl
     refine wp_region_held_drew (S:=fun u=>u.cell? (a_ d 11)=some (.slice sa os.length sc)) (by kernel_rfl) (HCE _ ⟨_,HV.below ((R9 _ _).drew)⟩) (fun hHeld=> ?_)
     refine tkH_ (i:=0) (v:=(p_ H)) rfl (by kernel_rfl) (fun _ _ _ h=>h) (au ⟨by rfl,?_⟩) hHeld ?_
     ·(intro wz hSz;(try dsimp only at hSz);go_simp)
     try simp only[Act.put,eD,dQ,dP,ae,ah,af]
     refine tkH_ (i:=1) (v:=(.string aB)) rfl (by kernel_rfl) (fun _ _ _ h=>h) (au ⟨by rfl,?_⟩) hHeld ?_
     ·(intro wz hSz;(try dsimp only at hSz);go_simp)
     try simp only[Act.put,eD,dQ,dP,ae,ah,af]
     refine tkH_ (i:=2) (v:=(.agg #[Vb Ve 67,Vb Ve 68,.string aB])) rfl (by kernel_rfl) (fun _ _ _ h=>h) (au ⟨by rfl,?_⟩) hHeld ?_
     ·(intro wz hSz;(try dsimp only at hSz);go_simp)
     try simp only[Act.put,eD,dQ,dP,ae,ah,af]
     refine Vo (i:=5) (v:=(.pointer (some (a_ d 11)))) rfl (by kernel_rfl) (by kernel_rfl) (by kernel_rfl) (fun _ _ _ h=>h) (au ⟨by rfl,?_⟩) hHeld ?_
     ·(intro wz hSz;(try dsimp only at hSz);go_simp)
     try simp only[Act.put,eD,dQ,dP,ae,ah,af]
     refine tkH_ (i:=6) (v:=(.slice sa os.length sc)) rfl (by kernel_rfl) (fun _ _ _ h=>h) (au ⟨by rfl,?_⟩) hHeld ?_
     ·(intro wz hSz;(try dsimp only at hSz);go_simp)
     try simp only[Act.put,eD,dQ,dP,ae,ah,af]
     refine wpAnyH_ready (rs:=[3]) (by kernel_rfl) (by simp) ?_
     refine AllReadyH.cons rfl (fun K hK=> ?_) AllReadyH.nil
     go_simp
     refine bE (HWR _ (HV.below ((R9 _ _).drew))) ?_
     rintro ee u6 ⟨rfl,h6⟩
     have H6:=M0 h6
     clear h6 hHeld
     go_wp2_with fail
     refine hK.out _ _ ?_ (fun hHeld=> ?_)
     ·exact HCE _ ⟨_,H6⟩
     clear hK K
     try simp only[Act.put,eD,dQ,dP,ae,ah,af]
     refine wpAnyH_ready (rs:=[4,7]) (by kernel_rfl) (by simp) ?_
     refine AllReadyH.cons rfl (fun K hK=> ?_) (AllReadyH.cons rfl (fun K hK=> ?_) AllReadyH.nil)
     ·go_simp
      have HA:Hid (Dx w (u6.alloc (.cells #[.string fr] 9)) H h.Ww d cs (.slice sa os.length sc) os):=M0 (H6.below ((R9 _ _).alloc (ai _) _))
      have HO:=M0 (Dm u6 fr H6.tn.size)
      clear hHeld
      refine hK.out _ _ ?_ (fun hHeld=> ?_)
      ·exact HCE _ ⟨_,HA⟩
      clear hK K
      try simp only[Act.put,eD,dQ,dP,ae,ah,af]
      refine wpAnyH_ready (rs:=[7]) (by kernel_rfl) (by simp) ?_
      refine AllReadyH.cons rfl (fun K hK=> ?_) AllReadyH.nil
      go_simp
      refine bE (HOQ _ ⟨_,HA⟩) ?_
      rintro ee u7 ⟨rfl,hb7⟩
      have H7:=M0 (HA.below hb7)
      have HO7:=M0 (iN HO (fun j hj=>hb7.block j (HO.lt j hj).2))
      clear hb7 hHeld
      go_wp2_with fail
      refine hK.out _ _ ?_ (fun hHeld=> ?_)
      ·exact HCE _ ⟨_,H7⟩
      clear hK K
      try simp only[Act.put,eD,dQ,dP,ae,ah,af]
      refine tkH_ (i:=8) (v:=(.bool false)) rfl (by kernel_rfl) (fun _ _ _ h=>h) (au ⟨by rfl,?_⟩) hHeld ?_
      ·(intro wz hSz;(try dsimp only at hSz);go_simp)
      try simp only[Act.put,eD,dQ,dP,ae,ah,af]
      refine tkH_ (i:=9) (v:=(.bool false)) rfl (by kernel_rfl) (fun _ _ _ h=>h) (au ⟨by rfl,?_⟩) hHeld ?_
      ·(intro wz hSz;(try dsimp only at hSz);go_simp)
      try simp only[Act.put,eD,dQ,dP,ae,ah,af]
      refine tkH_ (i:=10) (v:=(Vb Vd kI)) rfl (by kernel_rfl) (fun _ _ _ h=>h) (au ⟨by rfl,?_⟩) hHeld ?_
      ·(intro wz hSz;(try dsimp only at hSz);go_simp)
      try simp only[Act.put,eD,dQ,dP,ae,ah,af]
      refine tkH_ (i:=11) (v:=(.bool true)) rfl (by kernel_rfl) (fun _ _ _ h=>h) (au ⟨by rfl,?_⟩) hHeld ?_
      ·(intro wz hSz;(try dsimp only at hSz);(have:=hk5;go_simp))
      try simp only[Act.put,eD,dQ,dP,ae,ah,af]
      refine tkH_ (i:=12) (v:=(.bool true)) rfl (by kernel_rfl) (fun _ _ _ h=>h) (au ⟨by rfl,?_⟩) hHeld ?_
      ·(intro wz hSz;(try dsimp only at hSz);go_simp)
      try simp only[Act.put,eD,dQ,dP,ae,ah,af]
      refine Vo (i:=13) (v:=(.slice (some (a_ u6.heap.size 0)) 1 1)) rfl (by kernel_rfl) (by kernel_rfl) (by kernel_rfl) (fun _ _ _ h=>h) (au ⟨by rfl,?_⟩) hHeld ?_
      ·(intro wz hSz;(try dsimp only at hSz);go_simp)
      try simp only[Act.put,eD,dQ,dP,ae,ah,af]
      refine tkH_ (i:=14) (v:=(.bool true)) rfl (by kernel_rfl) (fun _ _ _ h=>h) (au ⟨by rfl,?_⟩) hHeld ?_
      ·(intro wz hSz;(try dsimp only at hSz);go_simp)
      try simp only[Act.put,eD,dQ,dP,ae,ah,af]
      refine VG (by kernel_rfl) ?_ _
      go_wp2
      go_ret2
      refine⟨u6.heap.size,rfl,?_,H7.at',H7.tn⟩
      rw[<-gB HAB,<-gB HFR]
      exact HO7
     ·go_simp
      refine bE (HOQ _ ⟨_,H6⟩) ?_
      rintro ee u7 ⟨rfl,hb7⟩
      have H7:=M0 (H6.below hb7)
      clear hb7 hHeld
      go_wp2_with fail
      refine hK.out _ _ ?_ (fun hHeld=> ?_)
      ·exact HCE _ ⟨_,H7⟩
      clear hK K
      try simp only[Act.put,eD,dQ,dP,ae,ah,af]
      refine tkH_ (i:=8) (v:=(.bool false)) rfl (by kernel_rfl) (fun _ _ _ h=>h) (au ⟨by rfl,?_⟩) hHeld ?_
      ·(intro wz hSz;(try dsimp only at hSz);go_simp)
      try simp only[Act.put,eD,dQ,dP,ae,ah,af]
      refine tkH_ (i:=9) (v:=(.bool false)) rfl (by kernel_rfl) (fun _ _ _ h=>h) (au ⟨by rfl,?_⟩) hHeld ?_
      ·(intro wz hSz;(try dsimp only at hSz);go_simp)
      try simp only[Act.put,eD,dQ,dP,ae,ah,af]
      refine tkH_ (i:=10) (v:=(Vb Vd kI)) rfl (by kernel_rfl) (fun _ _ _ h=>h) (au ⟨by rfl,?_⟩) hHeld ?_
      ·(intro wz hSz;(try dsimp only at hSz);go_simp)
      try simp only[Act.put,eD,dQ,dP,ae,ah,af]
      refine tkH_ (i:=11) (v:=(.bool true)) rfl (by kernel_rfl) (fun _ _ _ h=>h) (au ⟨by rfl,?_⟩) hHeld ?_
      ·(intro wz hSz;(try dsimp only at hSz);(have:=hk5;go_simp))
      try simp only[Act.put,eD,dQ,dP,ae,ah,af]
      refine tkH_ (i:=12) (v:=(.bool true)) rfl (by kernel_rfl) (fun _ _ _ h=>h) (au ⟨by rfl,?_⟩) hHeld ?_
      ·(intro wz hSz;(try dsimp only at hSz);go_simp)
      try simp only[Act.put,eD,dQ,dP,ae,ah,af]
      refine wpAnyH_ready (rs:=[4]) (by kernel_rfl) (by simp) ?_
      refine AllReadyH.cons rfl (fun K hK=> ?_) AllReadyH.nil
      go_simp
      have HA:Hid (Dx w (u7.alloc (.cells #[.string fr] 9)) H h.Ww d cs (.slice sa os.length sc) os):=M0 (H7.below ((R9 _ _).alloc (ai _) _))
      have HO:=M0 (Dm u7 fr H7.tn.size)
      clear hHeld
      refine hK.out _ _ ?_ (fun hHeld=> ?_)
      ·exact HCE _ ⟨_,HA⟩
      clear hK K
      try simp only[Act.put,eD,dQ,dP,ae,ah,af]
      refine Vo (i:=13) (v:=(.slice (some (a_ u7.heap.size 0)) 1 1)) rfl (by kernel_rfl) (by kernel_rfl) (by kernel_rfl) (fun _ _ _ h=>h) (au ⟨by rfl,?_⟩) hHeld ?_
      ·(intro wz hSz;(try dsimp only at hSz);go_simp)
      try simp only[Act.put,eD,dQ,dP,ae,ah,af]
      refine tkH_ (i:=14) (v:=(.bool true)) rfl (by kernel_rfl) (fun _ _ _ h=>h) (au ⟨by rfl,?_⟩) hHeld ?_
      ·(intro wz hSz;(try dsimp only at hSz);go_simp)
      try simp only[Act.put,eD,dQ,dP,ae,ah,af]
      refine VG (by kernel_rfl) ?_ _
      go_wp2
      go_ret2
      refine⟨u7.heap.size,rfl,?_,HA.at',HA.tn⟩
      rw[<-gB HAB,<-gB HFR]
      exact HO
end Ho
end Go.Proofs.YtdgacidndknceaaGreatDoor
