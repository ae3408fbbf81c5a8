import Derived.Test.YtnbaacgmlbhhcaaGreatDoorMg47
import Derived.Test.YtnbaacgmlbhhcaaGreatDoorMgLoadsJ
import Derived.Deep.DeepHandedRow
import Derived.Test.YtnbaacgmlbhhcaaGreatDoorCards
import Derived.Test.YtnbaacgmlbhhcaaGreatDoorTie
set_option linter.all false
set_option maxHeartbeats 400000
set_option maxRecDepth 100000
open Go.ChangeShapes Go.WideShapes Go.ChangeAt Go.RowKit
open Go renaming World → kV
open Go.Proofs.Tryz renaming prog → aD1
open Go.Proofs.Tryz
namespace Go.Proofs.YtnbaacgmlbhhcaaGreatDoor
namespace loads
open Xi
theorem aw0:prog.globalNamed "netboot/machine.allCards" =some 1:=by kernel_rfl
theorem Yd:(prog.globals[1]?).map (·.type)=some 26:=by kernel_rfl
theorem at6:prog.globalNamed "netboot/netbootref.all" =some 0:=by kernel_rfl
theorem WL:(prog.globals[0]?).map (·.type)=some 26:=by kernel_rfl
theorem Vr:prog.cellsOf 26=6:=by kernel_rfl
theorem lC:prog.cellsOf 5=1:=by kernel_rfl
theorem ay5:prog.globalNamed "netboot/digest.rounds" =some 8:=by kernel_rfl
theorem XY:(prog.globals[8]?).map (·.type)=some 388:=by kernel_rfl
theorem am2:prog.cellsOf 388=64:=by kernel_rfl
theorem am6:prog.cellsOf 50=1:=by kernel_rfl
theorem aB8:prog.globalNamed "internal/strconv.uint64pow10" =some 2:=by kernel_rfl
theorem Zd:(prog.globals[2]?).map (·.type)=some 335:=by kernel_rfl
theorem nP:prog.cellsOf 335=20:=by kernel_rfl
theorem ZE:prog.cellsOf 238=1:=by kernel_rfl
theorem ai2:prog.globalNamed "strconv.ErrRange" =some 7:=by kernel_rfl
theorem UC:(prog.globals[7]?).map (·.type)=some 352:=by kernel_rfl
theorem ai9:prog.globalNamed "strconv.ErrSyntax" =some 6:=by kernel_rfl
theorem Ul:(prog.globals[6]?).map (·.type)=some 352:=by kernel_rfl
theorem F7{H:Type}{enc:TypeId×Value->H}{P:Program}{w:kV}{base:Nat}{spare:Nat->Bool}{held:Bool}{fuel:Nat}{cs:XL}{x:DataW H×List MemPlace}{t:TypeId}{ms:Array (String×TypeId)}(ht:P.underlying t=some (.interface ms))(h:DataW.trod enc P w base spare held fuel t cs=some x):∃v,cs=[v]/\(v=.nilIface∨∃te pe,v=.iface te pe):=by
 cases fuel with
 |zero=>simp[DataW.trod]at h
 |succ n=>
  unfold DataW.trod at h;rw[ht]at h
  split at h<;>simp_all
def aA2:XI:=[0,1,28,2,29,14,24,3,30,22,20,15,25,17,4,8,31,27,13,23,21,19,16,7,26,12,18,6,11,5,10,9]
def as2:XI:=[0,1,56,2,57,49,28,3,61,58,42,50,38,29,17,4,62,47,59,36,45,43,51,22,53,39,33,30,24,18,12,5,63,55,48,27,60,41,37,16,46,35,44,21,52,32,23,11,54,26,40,15,34,20,31,10,25,14,19,9,13,8,7,6]
def ag1:XI:=[1,10,100,1000,10000,100000,1000000,10000000,100000000,1000000000,10000000000,100000000000,1000000000000,10000000000000,100000000000000,1000000000000000,10000000000000000,100000000000000000,1000000000000000000,10000000000000000000]
def kI:XI:=[1116352408,1899447441,3049323471,3921009573,961987163,1508970993,2453635748,2870763221,3624381080,310598401,607225278,1426881987,1925078388,2162078206,2614888103,3248222580,3835390401,4022224774,264347078,604807628,770255983,1249150122,1555081692,1996064986,2554220882,2821834349,2952996808,3210313671,3336571891,3584528711,113926993,338241895,666307205,773529912,1294757372,1396182291,1695183700,1986661051,2177026350,2456956037,2730485921,2820302411,3259730800,3345764771,3516065817,3600352804,4094571909,275423344,430227734,506948616,659060556,883997877,958139571,1322822218,1537002063,1747873779,1955562222,2024104815,2227730452,2361852424,2428436474,2756734187,3204031479,3329325298]
def rI:XI:=[255,255,255,255,255,255]
def aI:XI:=[255,255,255,255,255,255]
theorem aq1:(kI.map fun z=>Value.int .u32 z)=Hs.qP Hs.kN:=by kernel_rfl
theorem pow_eq:ag1=Lib.pow10Tab:=by decide+kernel
theorem six{W:kV}{n:String}{g:Nat}(hg:prog.globalNamed n=some g)(h1:Lib.TabIs aD1 W n .u8 aI)(j:Nat)(hj:j<6):W.cell? (a_ g j)=some (.int .u8 255):=by
 have h:j=0∨j=1∨j=2∨j=3∨j=4∨j=5:=by omega
 rcases h with rfl|rfl|rfl|rfl|rfl|rfl
 ·exact h1.cell hg 0 (by decide)
 ·exact h1.cell hg 1 (by decide)
 ·exact h1.cell hg 2 (by decide)
 ·exact h1.cell hg 3 (by decide)
 ·exact h1.cell hg 4 (by decide)
 exact h1.cell hg 5 (by decide)
theorem tabs{W:kV}(h:laidMetH aD1 Rows.loadsRow.laid W):Nu.Gl W:=by
 have h':laidMet aD1 [("math/bits.deBruijn32tab",Lib.tabData .u8 aA2),("math/bits.deBruijn64tab",Lib.tabData .u8 as2),("internal/strconv.uint64pow10",Lib.tabData .u64 ag1),("netboot/digest.rounds",Lib.tabData .u32 kI),("netboot/netbootref.all",Lib.tabData .u8 rI),("strconv.ErrRange",Rows.laid_strconv_ErrRange),("strconv.ErrSyntax",Rows.laid_strconv_ErrSyntax),("netboot/machine.allCards",Lib.tabData .u8 aI)] W:=h;obtain⟨ps,⟨g1,t1,cs1,f1,p1,q1,hg1,ht1,hv1,hd1,⟨g2,t2,cs2,f2,p2,q2,hg2,ht2,hv2,hd2,⟨g3,t3,cs3,f3,p3,q3,hg3,ht3,hv3,hd3,⟨g4,t4,cs4,f4,p4,q4,hg4,ht4,hv4,hd4,⟨g5,t5,cs5,f5,p5,q5,hg5,ht5,hv5,hd5,⟨g6,t6,cs6,f6,p6,q6,hg6,ht6,hv6,hd6,⟨g7,t7,cs7,f7,p7,q7,hg7,ht7,hv7,hd7,⟨g8,t8,cs8,f8,p8,q8,hg8,ht8,hv8,hd8,_,_⟩,_⟩,_⟩,_⟩,_⟩,_⟩,_⟩,_⟩,_⟩:=h';obtain rfl:=aV (aw0.symm.trans hg8);obtain rfl:=aV (Yd.symm.trans ht8);obtain rfl:=aV (at6.symm.trans hg5);obtain rfl:=aV (WL.symm.trans ht5);obtain rfl:=aV (ay5.symm.trans hg4);obtain rfl:=aV (XY.symm.trans ht4);obtain rfl:=aV (aB8.symm.trans hg3);obtain rfl:=aV (Zd.symm.trans ht3);obtain rfl:=aV (ai2.symm.trans hg6);obtain rfl:=aV (UC.symm.trans ht6);obtain rfl:=aV (ai9.symm.trans hg7);obtain rfl:=aV (Ul.symm.trans ht7);have a1:Lib.TabIs aD1 W "netboot/machine.allCards" .u8 aI:=by unfold Lib.TabIs;rw[hv8,<-Lib.cells_of_tab underlying26 dW lC Vr hd8]
 have a2:Lib.TabIs aD1 W "netboot/netbootref.all" .u8 rI:=by unfold Lib.TabIs;rw[hv5,<-Lib.cells_of_tab underlying26 dW lC Vr hd5]
 have a3:Lib.TabIs aD1 W "internal/strconv.uint64pow10" .u64 ag1:=by unfold Lib.TabIs;rw[hv3,<-Lib.cells_of_tab underlying335 underlying238 ZE nP hd3]
 have a4:Lib.TabIs aD1 W "netboot/digest.rounds" .u32 kI:=by unfold Lib.TabIs;rw[hv4,<-Lib.cells_of_tab underlying388 underlying50 am6 am2 hd4]
 obtain⟨v6,e6,r6⟩:=F7 underlying352 hd6;obtain⟨v7,e7,r7⟩:=F7 underlying352 hd7;refine⟨six aw0 a1,six at6 (show Lib.TabIs aD1 W "netboot/netbootref.all" .u8 aI from a2),by rw[<-pow_eq];exact a3,fun g hg=> ?_,?_⟩
 ·rcases hg with rfl|rfl
  ·exact⟨v7,by rw[World.var?_cell ai9 hv7 0,<-bP,e7];rfl,r7⟩
  exact⟨v6,by rw[World.var?_cell ai2 hv6 0,<-bP,e6];rfl,r6⟩
 unfold Lib.TabIs World.var? at a4;rw[ay5,aq1]at a4;simp only[Option.bind_some]at a4
 cases hw:W.heap[(8:Nat)]? with
 |none=>rw[hw]at a4;simp at a4
 |some o=>
  rw[hw]at a4
  cases o with
  |cells cs t fz=>simp only[aZ]at a4;exact⟨t,fz,by subst a4;rfl⟩
  |_=>simp at a4
theorem big{W:kV}(h:W.ShapedOpen aD1):9<=W.heap.size:=by
 have q:∃zero t,(((begin aD1 (fun _ _=>0) default).world).heap[9-1]?).bind Obj.row?=some (zero,t):=by
  have e:((((begin aD1 (fun _ _=>0) default).world).heap[9-1]?).bind Obj.row?).isSome=true:=by kernel_rfl
  obtain⟨x,hx⟩:=Option.isSome_iff_exists.1 e;exact⟨x.1,x.2,hx⟩
 obtain⟨zero,t,hq⟩:=q;obtain⟨cs,hc,_⟩:=h.1 (9-1) zero t (by decide+kernel) hq;have:=(dU.1 hc).1;omega
theorem contract(H:Type)(enc:TypeId×Value->H)(W:kV)(base:Nat)(args:XV)(ds gs:List (DataW H))(before:List MemPlace)
  (hval0:∀(j:Nat) t v,f3.params[j]?=some t->args[j]?=some v->Value.okWide aD1 W .any base t v)
  (hW:DataW.Whole enc aD1 f3.params.toList Rows.loadsSpec.vars false W args.toList ds gs before)
  (hz:(DataW.weightsEach aD1 (f3.params.toList++(OpenSpec.ofChange Rows.loadsSpec).bare.plain.varTypes aD1) (ds++gs)).all (· <=reachBytes)=true)
  (hL:laidMetH aD1 Rows.loadsRow.laid W) (hsh:W.ShapedOpen aD1):
  Calls aD1 3 args W fun e W'=>∃v,e=.returned v/\Rows.loadsSpec.post enc aD1 f3 false true false false W args v W':=by
 have hval:∀(j:Nat) t v,f3.params[j]?=some t->args[j]?=some v->Value.okWide aD1 W .any base t v:=hval0;have hW':=hW;obtain⟨p,q,hA0,hV,rfl,hfz,hnd⟩:=hW;have hA:DataW.TrodAll enc aD1 W 0 (fun _=>true) true f3.params.toList args.toList ds p:=hA0;have hz':∀n ∈ DataW.weightsEach aD1 (f3.params.toList++(OpenSpec.ofChange Rows.loadsSpec).bare.plain.varTypes aD1) (ds++gs),n<=reachBytes:=fun n hn=>by simpa using kC.1 hz n hn
 rw[params3]at hA hval hz';obtain⟨v0,vs0,d0,ds0,p0,q0,hargs,rfl,rfl,h0,r0⟩:=trodAll_cons hA;obtain⟨rfl,rfl,rfl⟩:=trodAll_nil r0;obtain rfl:args=#[v0]:=by cases args;simp_all
 obtain⟨rfl,rfl⟩:=trodVars_none hV;clear hA0 hval0;simp only[dJ]at hW';have h0k:=h0;obtain⟨a,len,cap,rfl⟩:=okWide_slice underlying22 (hval 0 22 v0 rfl rfl);obtain⟨fuel,hf⟩:=h0;obtain⟨sa,sc,ops,ecs,hS,hl,hO⟩:=XQ hf (fun n hn=>hz' n (DataW.weights_mem_each (j:=0) rfl rfl n hn));have e:(Value.slice a len cap)=.slice sa ops.length sc:=by simpa[Value.cells]using ecs
 rw[e]at hW' h0k ⊢;refine(Lw.bd5 sa sc ops W hS hl hO (big hsh) (tabs hL)).mono fun ee W' ⟨he,hg⟩=> ?_;subst he;exact⟨_,rfl,Op.ap1 hW' rfl rfl rfl ⟨rfl,rfl,rfl⟩ (by kernel_rfl) (fD (by kernel_rfl)) h0k hg⟩
def put(cs:XV):Obj->Obj
 | .cells _ t frozen=>.cells cs t frozen
 |o=>o
noncomputable def low:Nat:=(World.holding aD1 default ⟨#[],#[],[]⟩).heap.size
noncomputable def Dj (os:Os):kV:=
 let w0:=World.holding aD1 os ⟨#[.cells #[.string ⟨#[118,97,108,117,101,32,111,117,116,32,111,102,32,114,97,110,103,101]⟩] 395,.cells #[.string ⟨#[105,110,118,97,108,105,100,32,115,121,110,116,97,120]⟩] 395],#[],[]⟩
 {w0 with heap:=((((((((w0.heap.modify 4 (put (aA2.map fun z=>Value.int .u8 z).toArray)).modify 5 (put (as2.map fun z=>Value.int .u8 z).toArray)).modify 2 (put (ag1.map fun z=>Value.int .u64 z).toArray)).modify 8 (put (kI.map fun z=>Value.int .u32 z).toArray)).modify 0 (put (rI.map fun z=>Value.int .u8 z).toArray)).modify 7 (put #[.iface 393 (p_ (low+0))])).modify 6 (put #[.iface 393 (p_ (low+1))])).modify 1 (put (aI.map fun z=>Value.int .u8 z).toArray))}
theorem W9(os:Os):laidMet aD1 Rows.loadsRow.laid ((Dj os).forCall (fun _ _=>0) ⟨#[],#[.slice none 0 0],[]⟩).memory:=
 laidMet_of_run' 70 (by kernel_rfl) (by kernel_rfl)
theorem reads(os:Os){H:Type}(enc:TypeId×Value->H):∃places,DataW.whole enc aD1 ((Dj os).forCall (fun _ _=>0) ⟨#[],#[.slice none 0 0],[]⟩).memory f3.params.toList Rows.loadsSpec.vars false (#[.slice none 0 0]:XV).toList 8=some ([.nil],[],places):=
 ⟨[],by kernel_rfl⟩
theorem lifted(os:Os)(started:os.Started)(H:Type)(enc:TypeId×Value->H)(F:Stop.Interp):
  ReturnsInHanded {} Tryz.checked os 3 .any ((OpenSpec.ofChange Rows.loadsSpec).preRow enc aD1 f3 Rows.loadsRow.domain false Rows.loadsRow.laid) (((OpenSpec.ofChange Rows.loadsSpec).at F).post enc aD1 f3 false true false false):=by
 obtain⟨places,hx⟩:=reads os enc;refine returnsInHanded_of_row (C:=Tryz.checked) (s:=OpenSpec.ofChange Rows.loadsSpec) Op.own started (by kernel_rfl) func3
  (witness_row_at (enc:=enc) (C:=Tryz.checked) false (Dj os) #[.slice none 0 0] rfl (by kernel_rfl) (by kernel_rfl) (by kernel_rfl)
    (OpenSpec.preRow_of_cond 8 hx (by kernel_rfl) (fun k hk=>by cases hk) (by kernel_rfl) (W9 os))) ?_
 intro W base args ds gs before hval hW _ _ hz hL hsh _;exact contract H enc W base args ds gs before hval hW hz hL hsh
theorem said:Rows.LoadsSaid:=
 OpenClaim.holds_of_cond 3 f3 rfl rfl rfl rfl rfl rfl rfl ⟨rfl,rfl,rfl,rfl,rfl⟩ rfl rfl rfl rfl rfl (by kernel_rfl) func3 bd9.closed
  (fD (by kernel_rfl)) (by unfold Func.isWrapper;first|(rw[aB (by decide+kernel)];kernel_rfl)|(rw[az (by decide+kernel)];exact⟨rfl,rfl⟩))
  (fun os started H enc _ F=>by rw[OpenClaim.pre_eq_preRow];exact lifted os started H enc F)
theorem plain(f:FuncId)(fn:Func)(hf:Tryz.pinned.checked.prog.funcNamed "netboot/netbootlaw.Loads" =some f)(hfn:Tryz.pinned.checked.prog.funcs[f]?=some fn):
  true=Tryz.pinned.checked.prog.looks []/\∀(j:Nat) t,fn.params[j]?=some t->Tryz.pinned.checked.prog.wantsStandIn t=false:=by
 obtain rfl:f=3:=aV ((show prog.funcNamed "netboot/netbootlaw.Loads" =some 3 by kernel_rfl).symm.trans hf)|>.symm
 obtain rfl:fn=f3:=(aV (func3.symm.trans hfn)).symm;refine⟨by kernel_rfl,fun j t ht=> ?_⟩;rw[params3]at ht;obtain rfl:t=22:=by simpa using Array.mem_of_getElem? ht
 exact(show prog.wantsStandIn 22=false by kernel_rfl)
theorem card:Rows.LoadsCardSaid:=
 Claim7.holds_tied_plain_at .later [] _ _ _ _ said (fun _ h=>by cases h) (by kernel_rfl) (fun _ h=>by cases h) loads_row_tie rfl ⟨rfl,rfl⟩ (by kernel_rfl) rfl plain (by kernel_rfl)
end loads
theorem loads_holds:Rows.LoadsCardSaid:=loads.card
end Go.Proofs.YtnbaacgmlbhhcaaGreatDoor
