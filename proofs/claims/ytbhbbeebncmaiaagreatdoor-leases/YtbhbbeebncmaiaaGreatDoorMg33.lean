import Derived.Test.YtbhbbeebncmaiaaGreatDoorMg30
set_option linter.all false
set_option maxHeartbeats 4000000
set_option maxRecDepth 10000
open Go.ChangeShapes Go.WideShapes Go.ChangeAt Go.RowKit
open Go renaming World → fV, Calls → f_
open Go.RowKit renaming Below → gm
open Go.Proofs.Tryz renaming prog → Vh
open Go.Value renaming int → Vb
open Go.IntKind renaming u8 → Vd, u16 → Ve, u32 → Vf, i64 → Vg
open Go.Proofs.Tryz
namespace Go.Proofs.YtbhbbeebncmaiaaGreatDoor
namespace yJ
open Bs Rd Dh
def Tm(w:fV)(ra:Array Value)(u:fV):Prop:=gm w.heap.size w u/\u.heap[w.heap.size]?=some (.cells ra 262 (0,0))/\u.heap[w.heap.size+1]?=some (.cells zT_ 94 (0,0))
theorem Tm.lt{w u:fV}{ra:Array Value}(h:Tm w ra u):w.heap.size+1<u.heap.size:=Vj h.2.2
theorem Tm.below{w u u':fV}{ra:Array Value}(h:Tm w ra u)(hb:gm u.heap.size u u'):Tm w ra u':=
 ⟨h.1.trans (hb.mono h.1.size),(hb.block _ (Vj h.2.1)).trans h.2.1,(hb.block _ (Vj h.2.2)).trans h.2.2⟩
theorem Tm.set{w u:fV}{ra:Array Value}(h:Tm w ra u)(b:Nat)(hb:w.heap.size+1<b)(cs:Array Value):Tm w ra (u.setRow b cs):=
 ⟨below_setRow h.1 (by omega) cs,(setRow_other _ _ _ _ (by omega)).trans h.2.1,(setRow_other _ _ _ _ (by omega)).trans h.2.2⟩
theorem QW{u:fV}{g:Nat}{t:TypeId}{b0 b1 b2 b3 b4 b5 b6 b7 b8 b9 b10 b11 b12:Value}(h:u.heap[g]?=some (.cells #[b0,b1,b2,b3,b4,b5,b6,b7,b8,b9,b10,b11,b12] t (0,0))):
  u.cell? (a_ g 0)=some b0/\u.cell? (a_ g 1)=some b1/\u.cell? (a_ g 2)=some b2/\u.cell? (a_ g 3)=some b3/\u.cell? (a_ g 4)=some b4/\u.cell? (a_ g 5)=some b5/\u.cell? (a_ g 6)=some b6/\u.cell? (a_ g 7)=some b7/\u.cell? (a_ g 8)=some b8/\u.cell? (a_ g 9)=some b9/\u.cell? (a_ g 10)=some b10/\u.cell? (a_ g 11)=some b11/\u.cell? (a_ g 12)=some b12:=by
 have q:=fun j=>HY u g j _ _ _ h
 exact⟨q 0,q 1,q 2,q 3,q 4,q 5,q 6,q 7,q 8,q 9,q 10,q 11,q 12⟩
structure Ul where
 ma:Int
 ro:Int
 im:Int
 en:Bool
 old:Int
 iZ:Int
 over:Int
def kS(os:gU)(ne sv t:Int):Ul:=⟨(four (data os 1)).getD 4294967295,j6 (data os 3),if ne=0 then sv else ne,t !=4294967295,(sJ (four (data os 58)) (four (data os 59)) t).1,(sJ (four (data os 58)) (four (data os 59)) t).2,t⟩
theorem Tm.fresh{w x0:fV}{cs:Array Value}(h:Tm w cs x0):∃(xa:fV) (b:Nat),xa=x0.alloc (.cells zT_ 94)/\b=x0.heap.size/\Hid (w.heap.size+1<b)/\Hid (xa.heap[b]?=some (.cells zT_ 94 (0,0)))/\Hid (Tm w cs xa):=
 ⟨_,_,rfl,rfl,h.lt,G8 x0 _,h.below ((R9 _ _).alloc (ai _) _)⟩
theorem BQ(rep:Bool)(gF cl yo ne d0 d1 d2 d3 d4 d5:Int)(sa:Option Addr)(sc:Nat)(os:gU)(sv:Int)(t:Int)(ht:four (data os 51)=some t)(h0:t≠0)(w:fV)(hA:At w sa os)(hl:heavy os<=268435456)(h3:(data os 3).length<=maxLen):f_ Vh 309 #[.agg (rF rep gF cl yo ne d0 d1 d2 d3 d4 d5 sa os.length sc sv)] w fun ee w'=>ee=.returned (.tuple #[.agg (rT (kS os ne sv t).ma (kS os ne sv t).ro (kS os ne sv t).im (kS os ne sv t).en (kS os ne sv t).old (kS os ne sv t).iZ (kS os ne sv t).over),.bool true])/\gm w.heap.size w w':=by
 obtain⟨mk,hmk⟩:∃mk,mk=(kS os ne sv t).ma:=⟨_,rfl⟩
 obtain⟨ro,hro⟩:∃ro,ro=(kS os ne sv t).ro:=⟨_,rfl⟩
 obtain⟨im,him⟩:∃im,im=(kS os ne sv t).im:=⟨_,rfl⟩
 obtain⟨en,hen⟩:∃en,en=(kS os ne sv t).en:=⟨_,rfl⟩
 obtain⟨p,hp⟩:∃p,p=(kS os ne sv t).old:=⟨_,rfl⟩
 obtain⟨q,hq⟩:∃q,q=(kS os ne sv t).iZ:=⟨_,rfl⟩
 have hov:(kS os ne sv t).over=t:=rfl
 rw[<-hmk,<-hro,<-him,<-hen,<-hp,<-hq,hov]
 have hne:(t !=4294967295)=en:=hen.symm
 have h00:(t==0)=false:=by simpa using h0
 have HO1:Hid (∀u,f_ Vh 319 #[.agg (rF rep gF cl yo ne d0 d1 d2 d3 d4 d5 sa os.length sc sv)] u fun ee w'=>ee=.returned (.slice sa os.length sc)/\gm u.heap.size u w'):=gu (fun u=>jX rep gF cl yo ne d0 d1 d2 d3 d4 d5 sa sc os sv u)
 have HO2:Hid (∀u,gm w.heap.size w u->f_ Vh 319 #[.agg (rF rep gF cl yo ne d0 d1 d2 d3 d4 d5 sa os.length sc sv)] u fun ee w'=>ee=.returned (.slice sa os.length sc)/\gm u.heap.size u w'):=gu (fun u _=>jX rep gF cl yo ne d0 d1 d2 d3 d4 d5 sa sc os sv u)
 have HLG:Hid (∀u,gm w.heap.size w u->f_ Vh 320 #[.slice sa os.length sc,Vb Vd 51] u fun ee w'=>ee=.returned (.tuple #[Vb Vf t,.bool true])/\gm u.heap.size u w'):=gu (fun u hb=>by have r:=ED sa sc os 51 u (hA.below hb (ai _)) hl;rw[ht]at r;exact r)
 have HMK:Hid (∀u,gm w.heap.size w u->f_ Vh 321 #[.agg (rF rep gF cl yo ne d0 d1 d2 d3 d4 d5 sa os.length sc sv)] u fun ee w'=>ee=.returned (Vb Vf mk)/\gm u.heap.size u w'):=gu (fun u hb=>by rw[hmk];exact Ny rep gF cl yo ne d0 d1 d2 d3 d4 d5 sa sc os sv u (hA.below hb (ai _)) hl)
 have HFA:Hid (∀u,gm w.heap.size w u->f_ Vh 322 #[.slice sa os.length sc,Vb Vd 3] u fun ee w'=>ee=.returned (Vb Vf ro)/\gm u.heap.size u w'):=gu (fun u hb=>by rw[hro];exact J3 sa sc os 3 u (hA.below hb (ai _)) hl h3)
 have HIM:Hid (∀u,gm w.heap.size w u->f_ Vh 323 #[.agg (rF rep gF cl yo ne d0 d1 d2 d3 d4 d5 sa os.length sc sv)] u fun ee w'=>ee=.returned (Vb Vf im)/\gm u.heap.size u w'):=gu (fun u hb=>by rw[him];exact Hd rep gF cl yo ne d0 d1 d2 d3 d4 d5 sa sc os sv u)
 have HAG:Hid (∀u,gm w.heap.size w u->f_ Vh 324 #[.agg (rF rep gF cl yo ne d0 d1 d2 d3 d4 d5 sa os.length sc sv),Vb Vf t] u fun ee w'=>ee=.returned (.tuple #[Vb Vf p,Vb Vf q])/\gm u.heap.size u w'):=gu (fun u hb=>by rw[hp,hq];exact Nr rep gF cl yo ne d0 d1 d2 d3 d4 d5 sa sc os sv t (uw ht) u (hA.below hb (ai _)) hl)
 obtain⟨n,hn⟩:∃n,n=os.length:=⟨_,rfl⟩
 rw[<-hn]at HO1 HO2 HLG HMK HFA HIM HAG ⊢
 have HKS:Hid (∀u:fV,u.heap[w.heap.size]?=some (.cells (rF rep gF cl yo ne d0 d1 d2 d3 d4 d5 sa n sc sv) 262 (0,0))->u.cell? (a_ w.heap.size 0)=some (.bool rep)/\u.cell? (a_ w.heap.size 1)=some (Vb Vf gF)/\u.cell? (a_ w.heap.size 2)=some (Vb Vf cl)/\u.cell? (a_ w.heap.size 3)=some (Vb Vf yo)/\u.cell? (a_ w.heap.size 4)=some (Vb Vf ne)/\u.cell? (a_ w.heap.size 5)=some (Vb Vd d0)/\u.cell? (a_ w.heap.size 6)=some (Vb Vd d1)/\u.cell? (a_ w.heap.size 7)=some (Vb Vd d2)/\u.cell? (a_ w.heap.size 8)=some (Vb Vd d3)/\u.cell? (a_ w.heap.size 9)=some (Vb Vd d4)/\u.cell? (a_ w.heap.size 10)=some (Vb Vd d5)/\u.cell? (a_ w.heap.size 11)=some (.slice sa n sc)/\u.cell? (a_ w.heap.size 12)=some (Vb Vf sv)):=gu (fun u hu=>by have:=QW hu;exact this)
 clear hn hA hl h3 ht h0 hmk hro him hen hp hq hov
 go_enter func309,ntmps309
 go_wp2_with fail
 refine(HO1 _).mono ?_
 rintro ee u1 ⟨rfl,hb1⟩
 have HT1:Hid (Tm w (rF rep gF cl yo ne d0 d1 d2 d3 d4 d5 sa n sc sv) u1):=gu (Tm.below (u:=(w.alloc (.cells (rF rep gF cl yo ne d0 d1 d2 d3 d4 d5 sa n sc sv) 262)).alloc (.cells zT_ 94)) ⟨((R9 _ _).alloc (ai _) _).alloc (by simp) _,(Vi _ _ _ (by simp)).trans (G8 w _),by have r:=G8 (w.alloc (.cells (rF rep gF cl yo ne d0 d1 d2 d3 d4 d5 sa n sc sv) 262)) (.cells zT_ 94);simpa using r⟩ hb1)
 clear hb1 HO1
 go_wp2_with fail
 refine(HLG _ HT1.1).mono ?_
 rintro ee u2 ⟨rfl,hb2⟩
 have HT0:=gu (HT1.below hb2)
 clear hb2 HLG HT1
 go_wp2
 go_cut [6] (fun s6 wc=>∃b,s6=(p_ b)/\Hid (Tm w (rF rep gF cl yo ne d0 d1 d2 d3 d4 d5 sa n sc sv) wc/\wc.heap[b]?=some (.cells (rT mk ro im en 0 0 t) 94 (0,0))/\w.heap.size+1<b))
 case first=>
   refine wp_region_held_drew (S:=fun u=>u.cell? (a_ w.heap.size 0)=some (.bool rep)/\u.cell? (a_ w.heap.size 1)=some (Vb Vf gF)/\u.cell? (a_ w.heap.size 2)=some (Vb Vf cl)/\u.cell? (a_ w.heap.size 3)=some (Vb Vf yo)/\u.cell? (a_ w.heap.size 4)=some (Vb Vf ne)/\u.cell? (a_ w.heap.size 5)=some (Vb Vd d0)/\u.cell? (a_ w.heap.size 6)=some (Vb Vd d1)/\u.cell? (a_ w.heap.size 7)=some (Vb Vd d2)/\u.cell? (a_ w.heap.size 8)=some (Vb Vd d3)/\u.cell? (a_ w.heap.size 9)=some (Vb Vd d4)/\u.cell? (a_ w.heap.size 10)=some (Vb Vd d5)/\u.cell? (a_ w.heap.size 11)=some (.slice sa n sc)/\u.cell? (a_ w.heap.size 12)=some (Vb Vf sv)) (by kernel_rfl) (HKS u2.drew (by exact HT0.2.1)) (fun hHeld=> ?_)
   obtain⟨x0,hx0⟩:∃x0,x0=u2.drew:=⟨_,rfl⟩
   have HTx0:Hid (Tm w (rF rep gF cl yo ne d0 d1 d2 d3 d4 d5 sa n sc sv) x0):=gu (by rw[hx0];exact⟨HT0.1.drew,HT0.2.1,HT0.2.2⟩)
   rw[<-hx0]at hHeld ⊢
   clear hx0
   refine Vo (i:=0) (v:=(.agg (rF rep gF cl yo ne d0 d1 d2 d3 d4 d5 sa n sc sv))) rfl (by kernel_rfl) (by kernel_rfl) (by kernel_rfl) (fun _ _ _ h=>h) (au ⟨by rfl,?_⟩) hHeld ?_
   ·(intro wz hSz;(try dsimp only at hSz);go_simp)
   try simp only[Act.put,ae,ah,af]
   refine Vo (i:=2) (v:=(.agg (rF rep gF cl yo ne d0 d1 d2 d3 d4 d5 sa n sc sv))) rfl (by kernel_rfl) (by kernel_rfl) (by kernel_rfl) (fun _ _ _ h=>h) (au ⟨by rfl,?_⟩) hHeld ?_
   ·(intro wz hSz;(try dsimp only at hSz);go_simp)
   try simp only[Act.put,ae,ah,af]
   refine Vo (i:=5) (v:=(.agg (rF rep gF cl yo ne d0 d1 d2 d3 d4 d5 sa n sc sv))) rfl (by kernel_rfl) (by kernel_rfl) (by kernel_rfl) (fun _ _ _ h=>h) (au ⟨by rfl,?_⟩) hHeld ?_
   ·(intro wz hSz;(try dsimp only at hSz);go_simp)
   try simp only[Act.put,ae,ah,af]
   refine tkH_ (i:=7) (v:=(Vb Vf t)) rfl (by kernel_rfl) (fun _ _ _ h=>h) (au ⟨by rfl,?_⟩) hHeld ?_
   ·(intro wz hSz;(try dsimp only at hSz);go_simp)
   try simp only[Act.put,ae,ah,af]
   refine tkH_ (i:=8) (v:=(.bool en)) rfl (by kernel_rfl) (fun _ _ _ h=>h) (au ⟨by rfl,?_⟩) hHeld ?_
   ·(intro wz hSz;(try dsimp only at hSz);go_simp)
   try simp only[Act.put,ae,ah,af]
   refine tkH_ (i:=9) (v:=(Vb Vf t)) rfl (by kernel_rfl) (fun _ _ _ h=>h) (au ⟨by rfl,?_⟩) hHeld ?_
   ·(intro wz hSz;(try dsimp only at hSz);go_simp)
   try simp only[Act.put,ae,ah,af]
   have HT:=HTx0
   clear HTx0
   all_goals first
    |(refine wpAnyH_ready (rs:=[1,11]) (by decide+kernel) (by simp) ?_;refine AllReadyH.cons rfl (fun K hK=> ?_) (AllReadyH.cons rfl (fun K hK=> ?_) AllReadyH.nil))
    |(refine wpAnyH_ready (rs:=[1]) (by decide+kernel) (by simp) ?_;refine AllReadyH.cons rfl (fun K hK=> ?_) AllReadyH.nil)
   all_goals go_simp
   all_goals first
    |(refine bE (HMK _ HT.1) ?_;rintro ee x0 ⟨rfl,hb⟩;have HT:=gu (HT.below hb);(try have HD:=gu ((hb.block b (Vj HD)).trans HD));clear hb;go_wp2_with fail;clear hHeld;refine hK.out _ _ (HKS _ HT.2.1) (fun hHeld=> ?_);clear hK K;(try simp only[Act.put,ae,ah,af]))
    |(obtain⟨xa,b,hnew,hbb,HBB,HD,HT⟩:=HT.fresh;rw[<-hnew,<-hbb];clear hnew hbb;clear hHeld;refine hK.out _ _ (HKS _ HT.2.1) (fun hHeld=> ?_);clear hK K;(try simp only[Act.put,ae,ah,af]);refine wpAnyH_ready (rs:=[1]) (by kernel_rfl) (by simp) ?_;refine AllReadyH.cons rfl (fun K hK=> ?_) AllReadyH.nil;go_simp;refine bE (HMK _ HT.1) ?_;rintro ee x0 ⟨rfl,hb⟩;have HT:=gu (HT.below hb);(try have HD:=gu ((hb.block b (Vj HD)).trans HD));clear hb;go_wp2_with fail;clear hHeld;refine hK.out _ _ (HKS _ HT.2.1) (fun hHeld=> ?_);clear hK K;(try simp only[Act.put,ae,ah,af]))
   all_goals first
    |(refine wpAnyH_ready (rs:=[3,11]) (by decide+kernel) (by simp) ?_;refine AllReadyH.cons rfl (fun K hK=> ?_) (AllReadyH.cons rfl (fun K hK=> ?_) AllReadyH.nil))
    |(refine wpAnyH_ready (rs:=[3]) (by decide+kernel) (by simp) ?_;refine AllReadyH.cons rfl (fun K hK=> ?_) AllReadyH.nil)
   all_goals go_simp
   all_goals first
    |(refine bE (HO2 _ HT.1) ?_;rintro ee x0 ⟨rfl,hb⟩;have HT:=gu (HT.below hb);(try have HD:=gu ((hb.block b (Vj HD)).trans HD));clear hb;go_wp2_with fail;clear hHeld;refine hK.out _ _ (HKS _ HT.2.1) (fun hHeld=> ?_);clear hK K;(try simp only[Act.put,ae,ah,af]))
    |(obtain⟨xa,b,hnew,hbb,HBB,HD,HT⟩:=HT.fresh;rw[<-hnew,<-hbb];clear hnew hbb;clear hHeld;refine hK.out _ _ (HKS _ HT.2.1) (fun hHeld=> ?_);clear hK K;(try simp only[Act.put,ae,ah,af]);refine wpAnyH_ready (rs:=[3]) (by kernel_rfl) (by simp) ?_;refine AllReadyH.cons rfl (fun K hK=> ?_) AllReadyH.nil;go_simp;refine bE (HO2 _ HT.1) ?_;rintro ee x0 ⟨rfl,hb⟩;have HT:=gu (HT.below hb);(try have HD:=gu ((hb.block b (Vj HD)).trans HD));clear hb;go_wp2_with fail;clear hHeld;refine hK.out _ _ (HKS _ HT.2.1) (fun hHeld=> ?_);clear hK K;(try simp only[Act.put,ae,ah,af]))
   all_goals first
    |(refine wpAnyH_ready (rs:=[4,11]) (by decide+kernel) (by simp) ?_;refine AllReadyH.cons rfl (fun K hK=> ?_) (AllReadyH.cons rfl (fun K hK=> ?_) AllReadyH.nil))
    |(refine wpAnyH_ready (rs:=[4]) (by decide+kernel) (by simp) ?_;refine AllReadyH.cons rfl (fun K hK=> ?_) AllReadyH.nil)
   all_goals go_simp
   all_goals first
    |(refine bE (HFA _ HT.1) ?_;rintro ee x0 ⟨rfl,hb⟩;have HT:=gu (HT.below hb);(try have HD:=gu ((hb.block b (Vj HD)).trans HD));clear hb;go_wp2_with fail;clear hHeld;refine hK.out _ _ (HKS _ HT.2.1) (fun hHeld=> ?_);clear hK K;(try simp only[Act.put,ae,ah,af]))
    |(obtain⟨xa,b,hnew,hbb,HBB,HD,HT⟩:=HT.fresh;rw[<-hnew,<-hbb];clear hnew hbb;clear hHeld;refine hK.out _ _ (HKS _ HT.2.1) (fun hHeld=> ?_);clear hK K;(try simp only[Act.put,ae,ah,af]);refine wpAnyH_ready (rs:=[4]) (by kernel_rfl) (by simp) ?_;refine AllReadyH.cons rfl (fun K hK=> ?_) AllReadyH.nil;go_simp;refine bE (HFA _ HT.1) ?_;rintro ee x0 ⟨rfl,hb⟩;have HT:=gu (HT.below hb);(try have HD:=gu ((hb.block b (Vj HD)).trans HD));clear hb;go_wp2_with fail;clear hHeld;refine hK.out _ _ (HKS _ HT.2.1) (fun hHeld=> ?_);clear hK K;(try simp only[Act.put,ae,ah,af]))
   all_goals first
    |(refine wpAnyH_ready (rs:=[6,11]) (by decide+kernel) (by simp) ?_;refine AllReadyH.cons rfl (fun K hK=> ?_) (AllReadyH.cons rfl (fun K hK=> ?_) AllReadyH.nil))
    |(refine wpAnyH_ready (rs:=[6]) (by decide+kernel) (by simp) ?_;refine AllReadyH.cons rfl (fun K hK=> ?_) AllReadyH.nil)
   all_goals go_simp
   all_goals first
    |(refine bE (HIM _ HT.1) ?_;rintro ee x0 ⟨rfl,hb⟩;have HT:=gu (HT.below hb);(try have HD:=gu ((hb.block b (Vj HD)).trans HD));clear hb;go_wp2_with fail;clear hHeld;refine hK.out _ _ (HKS _ HT.2.1) (fun hHeld=> ?_);clear hK K;(try simp only[Act.put,ae,ah,af]))
    |(obtain⟨xa,b,hnew,hbb,HBB,HD,HT⟩:=HT.fresh;rw[<-hnew,<-hbb];clear hnew hbb;clear hHeld;refine hK.out _ _ (HKS _ HT.2.1) (fun hHeld=> ?_);clear hK K;(try simp only[Act.put,ae,ah,af]);refine wpAnyH_ready (rs:=[6]) (by kernel_rfl) (by simp) ?_;refine AllReadyH.cons rfl (fun K hK=> ?_) AllReadyH.nil;go_simp;refine bE (HIM _ HT.1) ?_;rintro ee x0 ⟨rfl,hb⟩;have HT:=gu (HT.below hb);(try have HD:=gu ((hb.block b (Vj HD)).trans HD));clear hb;go_wp2_with fail;clear hHeld;refine hK.out _ _ (HKS _ HT.2.1) (fun hHeld=> ?_);clear hK K;(try simp only[Act.put,ae,ah,af]))
   all_goals first
    |(refine wpAnyH_ready (rs:=[10,11]) (by decide+kernel) (by simp) ?_;refine AllReadyH.cons rfl (fun K hK=> ?_) (AllReadyH.cons rfl (fun K hK=> ?_) AllReadyH.nil))
    |(refine wpAnyH_ready (rs:=[10]) (by decide+kernel) (by simp) ?_;refine AllReadyH.cons rfl (fun K hK=> ?_) AllReadyH.nil)
   all_goals go_simp
   all_goals first
    |(clear hHeld;refine hK.out _ _ (HKS _ HT.2.1) (fun hHeld=> ?_);clear hK K;(try simp only[Act.put,ae,ah,af]))
    |(obtain⟨xa,b,hnew,hbb,HBB,HD,HT⟩:=HT.fresh;rw[<-hnew,<-hbb];clear hnew hbb;clear hHeld;refine hK.out _ _ (HKS _ HT.2.1) (fun hHeld=> ?_);clear hK K;(try simp only[Act.put,ae,ah,af]);refine wpAnyH_ready (rs:=[10]) (by kernel_rfl) (by simp) ?_;refine AllReadyH.cons rfl (fun K hK=> ?_) AllReadyH.nil;go_simp;clear hHeld;refine hK.out _ _ (HKS _ HT.2.1) (fun hHeld=> ?_);clear hK K;(try simp only[Act.put,ae,ah,af]))
   all_goals first
    |(refine wpAnyH_ready (rs:=[11]) (by decide+kernel) (by simp) ?_;refine AllReadyH.cons rfl (fun K hK=> ?_) AllReadyH.nil;go_simp;obtain⟨xa,b,hnew,hbb,HBB,HD,HT⟩:=HT.fresh;rw[<-hnew,<-hbb];clear hnew hbb;clear hHeld;refine hK.out _ _ (HKS _ HT.2.1) (fun hHeld=> ?_);clear hK K;(try simp only[Act.put,ae,ah,af]))
    |skip
   all_goals
    refine wpAnyH_ready (rs:=[12]) (by kernel_rfl) (by simp) ?_
    refine AllReadyH.cons rfl (fun K hK=> ?_) AllReadyH.nil
    rw[ay (by rfl)]
    refine wp_store_row 94 (.tmp 6) (.tmp 30) rfl b (rT mk ro im en 0 0 t) rfl rfl 94 _ HD (by kernel_rfl) (by kernel_rfl) (by kernel_rfl) ?_
    clear hHeld
    refine hK.out _ _ (HKS _ (HT.set b HBB _).2.1) (fun hHeld=> ?_)
    clear hK K
    try simp only[Act.put,ae,ah,af]
    refine VG (by kernel_rfl) ?_ _
    clear hHeld
    go_wp2
    go_meet
    exact⟨b,rfl,gu ⟨HT.set b HBB _,VB _ _ _ _ _ _ HD,HBB⟩⟩
 case rest=>
  rename fV=>wc
  obtain⟨b,rfl,HC⟩:=hcut
  have HTc:=gu HC.1
  have HRr:=gu HC.1.2.1
  clear HO2 HMK HFA HIM HKS HT0
  go_wp2_with (refine VO rfl 262 (.tmp 1) rfl w.heap.size rfl 262 _ (0,0) _ HRr dY rfl (by kernel_rfl) ?_)
  refine(HAG _ HTc.1).mono ?_
  rintro ee u5 ⟨rfl,hb5⟩
  have HT5:=gu (HTc.below hb5)
  have hr5:u5.heap[b]?=some (.cells (rT mk ro im en 0 0 t) 94 (0,0)):=(hb5.block b (Vj HC.2.1)).trans HC.2.1
  have HLB:=gu HC.2.2
  have y4:u5.cell? (a_ b 4)=some (Vb Vf 0):=HY u5 b 4 _ _ _ hr5
  have g4:u5.frozen? (a_ b 4)=false:=by simp[World.frozen?,hr5]
  have e4:u5.setCell (a_ b 4) (Vb Vf p)=u5.setRow b (rT mk ro im en p 0 t):=VD u5 b 4 _ _ _ _ hr5
  have hr6:(u5.setCell (a_ b 4) (Vb Vf p)).heap[b]?=some (.cells (rT mk ro im en p 0 t) 94 (0,0)):=by rw[e4];exact VB _ _ _ _ _ _ hr5
  have y5:(u5.setCell (a_ b 4) (Vb Vf p)).cell? (a_ b 5)=some (Vb Vf 0):=HY _ b 5 _ _ _ hr6
  have g5:(u5.setCell (a_ b 4) (Vb Vf p)).frozen? (a_ b 5)=false:=by simp only[World.frozen?,hr6];rfl
  have e5:(u5.setCell (a_ b 4) (Vb Vf p)).setCell (a_ b 5) (Vb Vf q)=(u5.setCell (a_ b 4) (Vb Vf p)).setRow b (rT mk ro im en p q t):=VD _ b 5 _ _ _ _ hr6
  have HR7:Hid (((u5.setCell (a_ b 4) (Vb Vf p)).setCell (a_ b 5) (Vb Vf q)).heap[b]?=some (.cells (rT mk ro im en p q t) 94 (0,0))):=gu (by rw[e5];exact VB _ _ _ _ _ _ hr6)
  have HT7:Hid (Tm w (rF rep gF cl yo ne d0 d1 d2 d3 d4 d5 sa n sc sv) ((u5.setCell (a_ b 4) (Vb Vf p)).setCell (a_ b 5) (Vb Vf q))):=gu (by rw[e5,e4];exact(HT5.set b HLB _).set b HLB _)
  have HRS:=gu HT7.2.2
  clear hb5 hr5 hr6 e4 e5 HTc HRr HC HT5 HAG
  go_wp2_with (first|(refine VO rfl 94 (.tmp 6) rfl b rfl 94 _ (0,0) _ HR7 underlying94 rfl (by kernel_rfl) ?_)|(refine V4 rfl 94 (.tmp 2) (.tmp 39) rfl (w.heap.size+1) (rT mk ro im en p q t) rfl rfl 94 _ HRS (by kernel_rfl) (by kernel_rfl) (by kernel_rfl) ?_))
  have hz:=VB _ _ _ (rT mk ro im en p q t) _ _ HRS
  have HF:=gu (below_setRow HT7.1 (show w.heap.size<=w.heap.size+1 by omega) (rT mk ro im en p q t))
  obtain⟨W,hW⟩:∃W,W=((u5.setCell (a_ b 4) (Vb Vf p)).setCell (a_ b 5) (Vb Vf q)).setRow (w.heap.size+1) (rT mk ro im en p q t):=⟨_,rfl⟩
  rw[<-hW]at hz HF ⊢
  clear hW
  have z0:W.cell? (a_ (w.heap.size+1) 0)=some (Vb Vf mk):=HY W _ 0 _ _ _ hz
  have z1:W.cell? (a_ (w.heap.size+1) 1)=some (Vb Vf ro):=HY W _ 1 _ _ _ hz
  have z2:W.cell? (a_ (w.heap.size+1) 2)=some (Vb Vf im):=HY W _ 2 _ _ _ hz
  have z3:W.cell? (a_ (w.heap.size+1) 3)=some (.bool en):=HY W _ 3 _ _ _ hz
  have z4:W.cell? (a_ (w.heap.size+1) 4)=some (Vb Vf p):=HY W _ 4 _ _ _ hz
  have z5:W.cell? (a_ (w.heap.size+1) 5)=some (Vb Vf q):=HY W _ 5 _ _ _ hz
  have z6:W.cell? (a_ (w.heap.size+1) 6)=some (Vb Vf t):=HY W _ 6 _ _ _ hz
  clear hz
  first|(refine Vl (v:=.tuple #[.agg (rT mk ro im en p q t),.bool true]) (by simp[results,results309,go_sem,z0,z1,z2,z3,z4,z5,z6]) rfl ?_;exact⟨rfl,HF⟩)|(go_returns;exact⟨rfl,HF⟩)
end yJ
end Go.Proofs.YtbhbbeebncmaiaaGreatDoor
