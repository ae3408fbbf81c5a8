import Derived.Test.YtdgacidndknceaaGreatDoorMg20
import Derived.Test.YtdgacidndknceaaGreatDoorMg22
import Derived.Deep.DeepHandedRow
import Derived.Lib.LaidTab
import Derived.Test.YtdgacidndknceaaGreatDoorCards
import Derived.Test.YtdgacidndknceaaGreatDoorTie
set_option linter.all false
set_option maxHeartbeats 400000
set_option maxRecDepth 100000
open Go.ChangeShapes Go.WideShapes Go.ChangeAt Go.RowKit
open Go renaming World → fV
open Go.Proofs.Tryz renaming prog → Vh
open Go.Proofs.Tryz
namespace Go.Proofs.YtdgacidndknceaaGreatDoor
namespace boots
open Hs Js
theorem aL5:prog.globalNamed "netboot/digest.rounds" =some 3:=by kernel_rfl
theorem aw2:(prog.globals[3]?).map (·.type)=some 208:=by kernel_rfl
theorem aK4:prog.cellsOf 208=64:=by kernel_rfl
theorem aJ7:prog.cellsOf 35=1:=by kernel_rfl
theorem Xh:prog.globalNamed "netboot/netbootkeep.card" =some 0:=by kernel_rfl
theorem av1:(prog.globals[0]?).map (·.type)=some 30:=by kernel_rfl
theorem Hw:prog.globalNamed "netboot/machine.allCards" =some 2:=by kernel_rfl
theorem av3:(prog.globals[2]?).map (·.type)=some 30:=by kernel_rfl
theorem GH:prog.cellsOf 30=6:=by kernel_rfl
theorem gY:prog.cellsOf 5=1:=by kernel_rfl
theorem Yt:prog.globalNamed "netboot/netbootkeep.other" =some 1:=by kernel_rfl
theorem am7:(prog.globals[1]?).map (·.type)=some 30:=by kernel_rfl
theorem aP6:prog.globalNamed "internal/strconv.uint64pow10" =some 5:=by kernel_rfl
theorem ay4:(prog.globals[5]?).map (·.type)=some 330:=by kernel_rfl
theorem aH3:prog.cellsOf 330=20:=by kernel_rfl
theorem aF9:prog.cellsOf 178=1:=by kernel_rfl
def Tt:List Int:=[0,1,28,2,29,14,24,3,30,22,20,15,25,17,4,8,31,27,13,23,21,19,16,7,26,12,18,6,11,5,10,9]
def TI:List Int:=[0,1,56,2,57,49,28,3,61,58,42,50,38,29,17,4,62,47,59,36,45,43,51,22,53,39,33,30,24,18,12,5,63,55,48,27,60,41,37,16,46,35,44,21,52,32,23,11,54,26,40,15,34,20,31,10,25,14,19,9,13,8,7,6]
def bk3:List Int:=[1,10,100,1000,10000,100000,1000000,10000000,100000000,1000000000,10000000000,100000000000,1000000000000,10000000000000,100000000000000,1000000000000000,10000000000000000,100000000000000000,1000000000000000000,10000000000000000000]
def kI:List Int:=[1116352408,1899447441,3049323471,3921009573,961987163,1508970993,2453635748,2870763221,3624381080,310598401,607225278,1426881987,1925078388,2162078206,2614888103,3248222580,3835390401,4022224774,264347078,604807628,770255983,1249150122,1555081692,1996064986,2554220882,2821834349,2952996808,3210313671,3336571891,3584528711,113926993,338241895,666307205,773529912,1294757372,1396182291,1695183700,1986661051,2177026350,2456956037,2730485921,2820302411,3259730800,3345764771,3516065817,3600352804,4094571909,275423344,430227734,506948616,659060556,883997877,958139571,1322822218,1537002063,1747873779,1955562222,2024104815,2227730452,2361852424,2428436474,2756734187,3204031479,3329325298]
def aI:List Int:=[255,255,255,255,255,255]
def cI:List Int:=[2,0,0,0,0,42]
def oI:List Int:=[2,0,0,0,0,7]
theorem tabs{W:fV}(h:laidMetH Vh Rows.bootsRow.laid W):Lib.TabIs Vh W "netboot/digest.rounds" .u32 kI/\Lib.TabIs Vh W "netboot/machine.allCards" .u8 aI/\Lib.TabIs Vh W "netboot/netbootkeep.card" .u8 cI/\Lib.TabIs Vh W "netboot/netbootkeep.other" .u8 oI/\Lib.TabIs Vh W "internal/strconv.uint64pow10" .u64 bk3:=by
 have h':laidMet Vh [("math/bits.deBruijn32tab",Lib.tabData .u8 Tt),("math/bits.deBruijn64tab",Lib.tabData .u8 TI),("internal/strconv.uint64pow10",Lib.tabData .u64 bk3),("netboot/digest.rounds",Lib.tabData .u32 kI),("strconv.ErrRange",Rows.laid_strconv_ErrRange),("strconv.ErrSyntax",Rows.laid_strconv_ErrSyntax),("netboot/machine.allCards",Lib.tabData .u8 aI),("netboot/netbootkeep.card",Lib.tabData .u8 cI),("netboot/netbootkeep.other",Lib.tabData .u8 oI)] W:=h;obtain⟨ps,⟨g1,t1,cs1,f1,p1,q1,hg1,ht1,hv1,hd1,⟨g2,t2,cs2,f2,p2,q2,hg2,ht2,hv2,hd2,⟨g3,t3,cs3,f3,p3,q3,hg3,ht3,hv3,hd3,⟨g4,t4,cs4,f4,p4,q4,hg4,ht4,hv4,hd4,⟨g5,t5,cs5,f5,p5,q5,hg5,ht5,hv5,hd5,⟨g6,t6,cs6,f6,p6,q6,hg6,ht6,hv6,hd6,⟨g7,t7,cs7,f7,p7,q7,hg7,ht7,hv7,hd7,⟨g8,t8,cs8,f8,p8,q8,hg8,ht8,hv8,hd8,⟨g9,t9,cs9,f9,p9,q9,hg9,ht9,hv9,hd9,_,_⟩,_⟩,_⟩,_⟩,_⟩,_⟩,_⟩,_⟩,_⟩,_⟩:=h';obtain rfl:=bp4 (aL5.symm.trans hg4);obtain rfl:=bp4 (aw2.symm.trans ht4);obtain rfl:=bp4 (Hw.symm.trans hg7);obtain rfl:=bp4 (av3.symm.trans ht7);obtain rfl:=bp4 (Xh.symm.trans hg8);obtain rfl:=bp4 (av1.symm.trans ht8);obtain rfl:=bp4 (Yt.symm.trans hg9);obtain rfl:=bp4 (am7.symm.trans ht9);obtain rfl:=bp4 (aP6.symm.trans hg3);obtain rfl:=bp4 (ay4.symm.trans ht3);refine⟨?_,?_,?_,?_,?_⟩
 ·unfold Lib.TabIs
  rw[hv4,<-Lib.cells_of_tab underlying208 underlying35 aJ7 aK4 hd4]
 ·unfold Lib.TabIs
  rw[hv7,<-Lib.cells_of_tab underlying30 bv4 gY GH hd7]
 ·unfold Lib.TabIs
  rw[hv8,<-Lib.cells_of_tab underlying30 bv4 gY GH hd8]
 ·unfold Lib.TabIs
  rw[hv9,<-Lib.cells_of_tab underlying30 bv4 gY GH hd9]
 unfold Lib.TabIs;rw[hv3,<-Lib.cells_of_tab underlying330 underlying178 aF9 aH3 hd3]
theorem aH9:(kI.map fun z=>Value.int .u32 z)=Wz kN:=by kernel_rfl
theorem rg{W:fV}(h:Lib.TabIs Vh W "netboot/digest.rounds" .u32 kI):RG W 3 kN:=by
 unfold Lib.TabIs World.var? at h;rw[aL5,aH9]at h;simp only[Option.bind_some]at h
 cases hw:W.heap[(3:Nat)]? with
 |none=>rw[hw]at h;simp at h
 |some o=>
  rw[hw]at h
  cases o with
  |cells cs t fz=>simp only[bq6]at h;exact⟨t,fz,by rw[hw,h]⟩
  |_=>simp at h
theorem aQ3{W:fV}(h1:Lib.TabIs Vh W "netboot/netbootkeep.card" .u8 cI):Kd W:=
 ⟨h1.cell Xh 0 (by decide),h1.cell Xh 1 (by decide),h1.cell Xh 2 (by decide),h1.cell Xh 3 (by decide),h1.cell Xh 4 (by decide),h1.cell Xh 5 (by decide)⟩
theorem YK{W:fV}(h1:Lib.TabIs Vh W "netboot/machine.allCards" .u8 aI):Gl W:=fun j hj=>by
 have h:j=0∨j=1∨j=2∨j=3∨j=4∨j=5:=by omega
 rcases h with rfl|rfl|rfl|rfl|rfl|rfl
 ·exact h1.cell Hw 0 (by decide)
 ·exact h1.cell Hw 1 (by decide)
 ·exact h1.cell Hw 2 (by decide)
 ·exact h1.cell Hw 3 (by decide)
 ·exact h1.cell Hw 4 (by decide)
 exact h1.cell Hw 5 (by decide)
theorem big{W:fV}(h1:RG W 3 kN)(h2:Gl W):4<=W.heap.size:=by
 have a:=h1.lt;have b:=bp8 W _ (h2 0 (by decide));first|exact a|exact b
theorem aF1{W:fV}(h1:Lib.TabIs Vh W "netboot/netbootkeep.card" .u8 cI)(h2:Lib.TabIs Vh W "netboot/netbootkeep.other" .u8 oI):Ho.NA W:=
 ⟨h1.cell Xh 0 (by decide),h1.cell Xh 1 (by decide),h1.cell Xh 2 (by decide),h1.cell Xh 3 (by decide),h1.cell Xh 4 (by decide),h1.cell Xh 5 (by decide),h2.cell Yt 0 (by decide),h2.cell Yt 1 (by decide),h2.cell Yt 2 (by decide),h2.cell Yt 3 (by decide),h2.cell Yt 4 (by decide),h2.cell Yt 5 (by decide)⟩
theorem pow_eq:bk3=Lib.pow10Tab:=by decide+kernel
theorem ba2{n:Int}(h:(Lit.int .i64 n).wf=true): -9223372036854775808<=n/\n<=9223372036854775807:=by
 simpa[Lit.wf,IntKind.min,IntKind.max,IntKind.signed,IntKind.bits]using h
theorem bS2{H:Type}{enc:TypeId×Value->H}{fn:Func}{s:ChangeSpec}{W W':fV}{t0 t1 t2 t3 t4 t5:TypeId}{v0 v1 v2 v3 v4 v5:Value}{d0 d1 d2 d3 d4 d5:DataW H}{p0 p1 p2 p3 p4 p5:List MemPlace}
  (hW:DataW.Whole enc Vh fn.params.toList s.vars false W #[v0,v1,v2,v3,v4,v5].toList [d0,d1,d2,d3,d4,d5] [] (p0++(p1++(p2++(p3++(p4++(p5))))))) (hp:fn.params=#[t0,t1,t2,t3,t4,t5]) (hr:fn.resultTypes=#[4]) (hv:s.vars=[])
  (hs:(s.fn H [d0,d1,d2,d3,d4,d5]).results=[.lit (.bool true)]/\(s.fn H [d0,d1,d2,d3,d4,d5]).args=[d0,d1,d2,d3,d4,d5]/\(s.fn H [d0,d1,d2,d3,d4,d5]).vars=[])
  (hread0:prog.readableRec t0=true) (hrow0:t0<prog.types.size) (hread1:prog.readableRec t1=true) (hrow1:t1<prog.types.size) (hread2:prog.readableRec t2=true) (hrow2:t2<prog.types.size) (hread3:prog.readableRec t3=true) (hrow3:t3<prog.types.size) (hread4:prog.readableRec t4=true) (hrow4:t4<prog.types.size) (hread5:prog.readableRec t5=true) (hrow5:t5<prog.types.size)
  (h0:DataW.Trod enc Vh W 0 (fun _=>true) true t0 v0 d0 p0) (h1:DataW.Trod enc Vh W 0 (fun _=>true) true t1 v1 d1 p1) (h2:DataW.Trod enc Vh W 0 (fun _=>true) true t2 v2 d2 p2) (h3:DataW.Trod enc Vh W 0 (fun _=>true) true t3 v3 d3 p3) (h4:DataW.Trod enc Vh W 0 (fun _=>true) true t4 v4 d4 p4) (h5:DataW.Trod enc Vh W 0 (fun _=>true) true t5 v5 d5 p5) (hb:Below W.heap.size W W'):
  s.post enc Vh fn false true false false W #[v0,v1,v2,v3,v4,v5] (.bool true) W':=by
 have hlt:∀x ∈ p0++(p1++(p2++(p3++(p4++(p5))))),x.block<W.heap.size:=fun x hx=>by simpa using hW.lt x hx
 refine⟨[d0,d1,d2,d3,d4,d5],[],p0++(p1++(p2++(p3++(p4++(p5))))),[],p0++(p1++(p2++(p3++(p4++(p5++ []))))),[],hW,?_,?_,?_,hb.frame _,fun h=>by cases h⟩
 ·rw[br8,hs.1,hr]
  exact trodAll_cons_mk (shut_bool underlying4 _) trodAll_mk0
 ·rw[br8,hs.2.1,hp]
  have a0:=Below.trod Op.laid hread0 hrow0 h0 hb (fun x hx=>hlt x (tF _ hx));have a1:=Below.trod Op.laid hread1 hrow1 h1 hb (fun x hx=>hlt x (ax _ (tF _ hx)));have a2:=Below.trod Op.laid hread2 hrow2 h2 hb (fun x hx=>hlt x (ax _ (ax _ (tF _ hx))));have a3:=Below.trod Op.laid hread3 hrow3 h3 hb (fun x hx=>hlt x (ax _ (ax _ (ax _ (tF _ hx)))));have a4:=Below.trod Op.laid hread4 hrow4 h4 hb (fun x hx=>hlt x (ax _ (ax _ (ax _ (ax _ (tF _ hx))))));have a5:=Below.trod Op.laid hread5 hrow5 h5 hb (fun x hx=>hlt x (ax _ (ax _ (ax _ (ax _ (ax _ hx))))));exact trodAll_cons_mk a0 (trodAll_cons_mk a1 (trodAll_cons_mk a2 (trodAll_cons_mk a3 (trodAll_cons_mk a4 (trodAll_cons_mk a5 trodAll_mk0)))))
 rw[br8,hs.2.2,hv];rfl
theorem En:prog.cellsOf 3=1:=by kernel_rfl
theorem bK0{H:Type}{enc:TypeId×Value->H}{w:fV}{base:Nat}{spare:Nat->Bool}{held:Bool}{fuel:Nat}{la:Option Addr}{nl cl:Nat}{x:DataW H×List MemPlace}(h:DataW.trod enc Vh w base spare held fuel 22 (Value.slice la nl cl).cells.toList=some x):∀i,i<nl->∃g o v,la=some ⟨g,o,none⟩/\w.cell? ⟨g,o+i,none⟩=some (.int .i64 v):=by
 have h':DataW.trod enc Vh w base spare held fuel 22 [.slice la nl cl]=some x:=h
 rcases Go.Deep.open_slice1 underlying22 En h' with⟨e,rfl⟩|⟨a,len,cap,m,n,V,D,Pl,e,_,hlc,_,hm,rfl,hx⟩
 ·simp only[rO,zt]at e
  intro i hi;omega
 simp only[rO,zt,and_true]at e;obtain⟨rfl,rfl,rfl⟩:=e;have hlm:nl<=m:=by rw[hm];split<;>omega
 have cell:∀i,i<nl->∃v,w.cell? (a.add i)=some (.int .i64 v):=fun i hi=>by
  obtain⟨h1,h2⟩:=hx i (by omega);obtain⟨s,e,d,_⟩:=DataW.trod_int underlying3 h2;have hv:V i=.int .i64 s:=by simpa using e
  exact⟨s,by rw[h1,hv]⟩
 intro i hi;obtain⟨v,hv⟩:=cell i hi;obtain⟨v0,hv0⟩:=cell 0 (by omega);have h0:a.spot=none:=Op.bL1 hv0;refine⟨a.block,a.off,v,by rw[<-h0],?_⟩;have e:a.add i=⟨a.block,a.off+i,none⟩:=by
  unfold Addr.add
  split
  ·rename_i hz
   rw[hz,bC6,<-h0]
  rfl
 rw[<-e];exact hv
theorem bM4{W:fV}{la:Option Addr}{nl cl:Nat}(h:∀i,i<nl->∃g o v,la=some ⟨g,o,none⟩/\W.cell? ⟨g,o+i,none⟩=some (.int .i64 v)):∀u,Below W.heap.size W u->Ho.Los u (.slice la nl cl):=fun u hb=>⟨la,nl,cl,rfl,fun i hi=>by
 obtain⟨g,o,v,e,hc⟩:=h i hi;exact⟨g,o,v,e,(bo7 (hb.block g (bp8 W _ hc))).trans hc⟩⟩
theorem contract(H:Type)(enc:TypeId×Value->H)(W:fV)(base:Nat)(args:Array Value)(ds gs:List (DataW H))(before:List MemPlace)
  (hval0:∀(j:Nat) t v,f3.params[j]?=some t->args[j]?=some v->Value.okWide Vh W .any base t v)
  (hW:DataW.Whole enc Vh f3.params.toList Rows.bootsSpec.vars false W args.toList ds gs before)
  (hL:laidMetH Vh Rows.bootsRow.laid W):
  Calls Vh 3 args W fun e W'=>∃v,e=.returned v/\Rows.bootsSpec.post enc Vh f3 false true false false W args v W':=by
 have hval:∀(j:Nat) t v,f3.params[j]?=some t->args[j]?=some v->Value.okWide Vh W .any base t v:=hval0;have hW':=hW;obtain⟨p,q,hA0,hV,rfl,hfz,hnd⟩:=hW;have hA:DataW.TrodAll enc Vh W 0 (fun _=>true) true f3.params.toList args.toList ds p:=hA0;rw[params3]at hA hval;obtain⟨v0,vs0,d0,ds0,p0,q0,hargs,rfl,rfl,h0,r0⟩:=trodAll_cons hA;obtain⟨v1,vs1,d1,ds1,p1,q1,rfl,rfl,rfl,h1,r1⟩:=trodAll_cons r0;obtain⟨v2,vs2,d2,ds2,p2,q2,rfl,rfl,rfl,h2,r2⟩:=trodAll_cons r1;obtain⟨v3,vs3,d3,ds3,p3,q3,rfl,rfl,rfl,h3,r3⟩:=trodAll_cons r2;obtain⟨v4,vs4,d4,ds4,p4,q4,rfl,rfl,rfl,h4,r4⟩:=trodAll_cons r3;obtain⟨v5,vs5,d5,ds5,p5,q5,rfl,rfl,rfl,h5,r5⟩:=trodAll_cons r4;obtain⟨rfl,rfl,rfl⟩:=trodAll_nil r5;obtain rfl:args=#[v0,v1,v2,v3,v4,v5]:=by cases args;simp_all
 obtain⟨rfl,rfl⟩:=trodVars_none hV;clear hA0 hval0;simp only[br8]at hW';have h0k:=h0;have h1k:=h1;have h2k:=h2;have h3k:=h3;have h4k:=h4;have h5k:=h5;obtain⟨a0,rfl,rfl,rfl,w0⟩:=open_int underlying3 (hval 0 3 v0 rfl rfl) h0;obtain⟨a1,rfl,rfl,rfl,w1⟩:=open_int underlying3 (hval 1 3 v1 rfl rfl) h1;obtain⟨a2,rfl,rfl,rfl,w2⟩:=open_int underlying3 (hval 2 3 v2 rfl rfl) h2;obtain⟨a3,rfl,rfl,rfl,w3⟩:=open_int underlying3 (hval 3 3 v3 rfl rfl) h3;obtain⟨a5,rfl,rfl,rfl,w5⟩:=open_int underlying3 (hval 5 3 v5 rfl rfl) h5;obtain⟨la,nl,cl,rfl⟩:=okWide_slice underlying22 (hval 4 22 v4 rfl rfl);obtain⟨fuel,hf⟩:=h4;have hI:=bK0 hf;obtain⟨t1,t2,t3,t4,t5⟩:=tabs hL;rw[pow_eq]at t5;refine(Ho.bK8 kN W (big (rg t1) (YK t2)) (YK t2) (aF1 t3 t4) (rg t1) aN7 t5 a0 a1 a2 a3 a5 (ba2 w0) (ba2 w2) (ba2 w3) (ba2 w5) la nl cl (bM4 hI)).mono fun ee W' ⟨he,hg⟩=> ?_;subst he;exact⟨_,rfl,bS2 hW' rfl rfl rfl ⟨rfl,rfl,rfl⟩ (by kernel_rfl) (bA1 (by kernel_rfl)) (by kernel_rfl) (bA1 (by kernel_rfl)) (by kernel_rfl) (bA1 (by kernel_rfl)) (by kernel_rfl) (bA1 (by kernel_rfl)) (by kernel_rfl) (bA1 (by kernel_rfl)) (by kernel_rfl) (bA1 (by kernel_rfl)) h0k h1k h2k h3k h4k h5k hg⟩
def put(cs:Array Value):Obj->Obj
 | .cells _ t frozen=>.cells cs t frozen
 |o=>o
noncomputable def low:Nat:=(World.holding Vh default ⟨#[],#[],[]⟩).heap.size
noncomputable def xD (os:Os):fV:=
 let w0:=World.holding Vh os ⟨#[.cells #[.string ⟨#[118,97,108,117,101,32,111,117,116,32,111,102,32,114,97,110,103,101]⟩] 366,.cells #[.string ⟨#[105,110,118,97,108,105,100,32,115,121,110,116,97,120]⟩] 366],#[],[]⟩
 {w0 with heap:=(((((((((w0.heap.modify 6 (put (Tt.map fun z=>Value.int .u8 z).toArray)).modify 7 (put (TI.map fun z=>Value.int .u8 z).toArray)).modify 5 (put (bk3.map fun z=>Value.int .u64 z).toArray)).modify 3 (put (kI.map fun z=>Value.int .u32 z).toArray)).modify 9 (put #[.iface 364 (p_ (low+0))])).modify 8 (put #[.iface 364 (p_ (low+1))])).modify 2 (put (aI.map fun z=>Value.int .u8 z).toArray)).modify 0 (put (cI.map fun z=>Value.int .u8 z).toArray)).modify 1 (put (oI.map fun z=>Value.int .u8 z).toArray))}
theorem Mf(os:Os):laidMet Vh Rows.bootsRow.laid ((xD os).forCall (fun _ _=>0) ⟨#[],#[.int .i64 0,.int .i64 0,.int .i64 0,.int .i64 0,.slice none 0 0,.int .i64 0],[]⟩).memory:=
 laidMet_of_run' 70 (by kernel_rfl) (by kernel_rfl)
theorem reads(os:Os){H:Type}(enc:TypeId×Value->H):∃places,DataW.whole enc Vh ((xD os).forCall (fun _ _=>0) ⟨#[],#[.int .i64 0,.int .i64 0,.int .i64 0,.int .i64 0,.slice none 0 0,.int .i64 0],[]⟩).memory f3.params.toList Rows.bootsSpec.vars false (#[.int .i64 0,.int .i64 0,.int .i64 0,.int .i64 0,.slice none 0 0,.int .i64 0]:Array Value).toList 8=some ([.lit (.int .i64 0),.lit (.int .i64 0),.lit (.int .i64 0),.lit (.int .i64 0),.nil,.lit (.int .i64 0)],[],places):=
 ⟨[],by kernel_rfl⟩
theorem lifted(os:Os)(started:os.Started)(H:Type)(enc:TypeId×Value->H)(F:Stop.Interp):
  ReturnsInHanded {} Tryz.checked os 3 .any ((OpenSpec.ofChange Rows.bootsSpec).preRow enc Vh f3 Rows.bootsRow.domain false Rows.bootsRow.laid) (((OpenSpec.ofChange Rows.bootsSpec).at F).post enc Vh f3 false true false false):=by
 obtain⟨places,hx⟩:=reads os enc;refine returnsInHanded_of_row (C:=Tryz.checked) (s:=OpenSpec.ofChange Rows.bootsSpec) Op.own started (by kernel_rfl) func3
  (witness_row_at (enc:=enc) (C:=Tryz.checked) false (xD os) #[.int .i64 0,.int .i64 0,.int .i64 0,.int .i64 0,.slice none 0 0,.int .i64 0] rfl (by kernel_rfl) (by kernel_rfl) (by kernel_rfl)
    (OpenSpec.preRow_of_cond 8 hx (by kernel_rfl) (fun k hk=>by cases hk) (by kernel_rfl) (Mf os))) ?_
 intro W base args ds gs before hval hW _ _ _ hL _ _;exact contract H enc W base args ds gs before hval hW hL
theorem said:Rows.BootsSaid:=
 OpenClaim.holds_of_cond 3 f3 rfl rfl rfl rfl rfl rfl rfl ⟨rfl,rfl,rfl,rfl,rfl⟩ rfl rfl rfl rfl rfl (by kernel_rfl) func3 bN9.closed
  (bA1 (by kernel_rfl)) (by unfold Func.isWrapper;first|(rw[bp0 (by decide+kernel)];kernel_rfl)|(rw[bo4 (by decide+kernel)];exact⟨rfl,rfl⟩))
  (fun os started H enc _ F=>by rw[OpenClaim.pre_eq_preRow];exact lifted os started H enc F)
theorem plain(f:FuncId)(fn:Func)(hf:Tryz.pinned.checked.prog.funcNamed "netboot/netbootkeep.Boots" =some f)(hfn:Tryz.pinned.checked.prog.funcs[f]?=some fn):
  true=Tryz.pinned.checked.prog.looks []/\∀(j:Nat) t,fn.params[j]?=some t->Tryz.pinned.checked.prog.wantsStandIn t=false:=by
 obtain rfl:f=3:=bp4 ((show prog.funcNamed "netboot/netbootkeep.Boots" =some 3 by kernel_rfl).symm.trans hf)|>.symm
 obtain rfl:fn=f3:=(bp4 (func3.symm.trans hfn)).symm;refine⟨by kernel_rfl,fun j t ht=> ?_⟩;rw[params3]at ht;have ht3:t=3∨t=22∨t=3:=by simpa using Array.mem_of_getElem? ht
 rcases ht3 with rfl|rfl|rfl
 ·exact(show prog.wantsStandIn 3=false by kernel_rfl)
 ·exact(show prog.wantsStandIn 22=false by kernel_rfl)
 exact(show prog.wantsStandIn 3=false by kernel_rfl)
theorem card:Rows.BootsCardSaid:=
 Claim7.holds_tied_plain_at .later [] _ _ _ _ said (fun _ h=>by cases h) (by kernel_rfl) (fun _ h=>by cases h) boots_row_tie rfl ⟨rfl,rfl⟩ (by kernel_rfl) rfl plain (by kernel_rfl)
end boots
theorem boots_holds:Rows.BootsCardSaid:=boots.card
end Go.Proofs.YtdgacidndknceaaGreatDoor
