import Derived.Test.YtdgacidndknceaaGreatDoorMg04
import Derived.Test.YtdgacidndknceaaGreatDoorMg05
import Derived.Test.YtdgacidndknceaaGreatDoorMg12
import Derived.Test.YtdgacidndknceaaGreatDoorMg15
set_option linter.all false
set_option maxHeartbeats 8000000
set_option maxRecDepth 20000
open Go.ChangeShapes Go.WideShapes Go.ChangeAt Go.RowKit
open Go renaming World → fV, Calls → f_
open Go.RowKit renaming Below → gm
open Go.Proofs.Tryz renaming prog → Vh
open Go.Value renaming int → Vb
open Go.IntKind renaming u8 → Vd, u16 → Ve, u32 → Vf, i64 → Vg
open Go.Proofs.Tryz
namespace Go.Proofs.YtdgacidndknceaaGreatDoor
namespace Ho
open Bs Js
variable{w w':fV} {H:Nat}
structure Host where
 image:ByteArray
 gK:Int
 next:Int
 opts:Bool
 port:Int
 block:Int
 window:Int
 sent:Int
 last:Int
 whn:Int
 now:Int
 id:Int
def Host.cells(h:Host):Array Value:=#[.string h.image,Vb Vf h.gK,Vb Vf h.next,.bool h.opts,Vb Ve h.port,Vb Vg h.block,Vb Vg h.window,Vb Vg h.sent,Vb Vg h.last,Vb Vg h.whn,Vb Vg h.now,Vb Ve h.id]
def At(w:fV)(H:Nat)(h:Host):Prop:=w.heap[H]?=some (.cells h.cells 39 (0,0))
theorem At.cell{h:Host}(k:At w H h)(j:Nat):w.cell? (a_ H j)=h.cells[j]?:=bn0 w _ j _ _ _ k
theorem At.free{h:Host}(k:At w H h)(j:Nat):w.frozen? (a_ H j)=false:=by unfold At at k;simp[World.frozen?,k]
theorem At.below{h:Host}(k:At w H h)(hb:gm w.heap.size w w'):At w' H h:=(hb.block H (gG k)).trans k
theorem At.set{h h':Host}(k:At w H h)(j:Nat)(v:Value)(e:h.cells.setIfInBounds j v=h'.cells):At (w.setCell (a_ H j) v) H h':=by
 unfold At;rw[<-e];exact gI w j v k
def NA(w:fV):Prop:=w.cell? (a_ 0 0)=some (Vb Vd 2)/\w.cell? (a_ 0 1)=some (Vb Vd 0)/\w.cell? (a_ 0 2)=some (Vb Vd 0)/\w.cell? (a_ 0 3)=some (Vb Vd 0)/\w.cell? (a_ 0 4)=some (Vb Vd 0)/\w.cell? (a_ 0 5)=some (Vb Vd 42)/\w.cell? (a_ 1 0)=some (Vb Vd 2)/\w.cell? (a_ 1 1)=some (Vb Vd 0)/\w.cell? (a_ 1 2)=some (Vb Vd 0)/\w.cell? (a_ 1 3)=some (Vb Vd 0)/\w.cell? (a_ 1 4)=some (Vb Vd 0)/\w.cell? (a_ 1 5)=some (Vb Vd 7)
def Host.Ww(h:Host):Host:={h with id:=IntKind.u16.wrap (h.id+1)}
def Host.frame(h:Host)(f t:Int)(load:ByteArray)(fr ta:Int):ByteArray:=og.ni [2,0,0,0,0,42,2,0,0,0,0,7] 2048 (Ip.Db h.Ww.id 9 17 fr ta (Ud.sH f t fr ta load))
theorem NA.of(c:NA w)(e0:w'.heap[(0:Nat)]?=w.heap[(0:Nat)]?)(e1:w'.heap[(1:Nat)]?=w.heap[(1:Nat)]?):NA w':=by
 unfold NA at c ⊢;simp only[World.cell?]at c ⊢;rw[e0,e1];exact c
theorem NA.lt(c:NA w):0<w.heap.size/\1<w.heap.size:=by
 obtain⟨a,_,_,_,_,_,b,_⟩:=c;constructor
 ·cases e:w.heap[(0:Nat)]? with
  |none=>simp[World.cell?,e]at a
  |some o=>exact gG e
 cases e:w.heap[(1:Nat)]? with
 |none=>simp[World.cell?,e]at b
 |some o=>exact gG e
theorem NA.below(c:NA w)(hb:gm w.heap.size w w'):NA w':=c.of (hb.block _ c.lt.1) (hb.block _ c.lt.2)
end Ho
namespace Ho
open Bs Rd
theorem strSize(a:List UInt8):(⟨a.toArray⟩:ByteArray).size=a.length:=by simp[ByteArray.size]
def WR(L:ByteArray):ByteArray:=⟨(L.data.toList++List.replicate (46-L.size) 0).toArray⟩
theorem Z9(L:ByteArray):(WR L).data.toList=L.data.toList++List.replicate (46-L.size) 0:=rfl
theorem Z_(L:ByteArray):(WR L).size=L.size+(46-L.size):=by
 unfold WR;rw[strSize,bn6,bt4,jc]
theorem ah7(a b c d e f a' b' c' d' e' f':UInt8)(ty:Int)(L:ByteArray)(h0:1536<=ty)(hl:L.size<=1500):(og.ni [a,b,c,d,e,f,a',b',c',d',e',f'] ty L).data.toList=a::b::c::d::e::f::a'::b'::c'::d'::e'::f'::gJ (ty/256)::gJ ty::(WR L).data.toList:=by
 have k1:og.bf0 ty=true:=by unfold og.bf0;simpa using h0
 have k2:og.ko L=true:=by unfold og.ko;simpa using hl
 have hls:=jc L;unfold og.ni;rw[k1,k2,Z9];show og.Ee _ ty L=_;unfold og.Ee;have e:60-([a,b,c,d,e,f,a',b',c',d',e',f']++iy ty++L.data.toList).length=46-L.size:=by
  simp only[bn6,hls,iy,bn5,bp6];omega
 rw[e];simp[iy]
theorem Xj(a b c d e f a' b' c' d' e' f':UInt8)(ty:Int)(L:ByteArray)(h0:1536<=ty)(hl:L.size<=1500):60<=(og.ni [a,b,c,d,e,f,a',b',c',d',e',f'] ty L).size/\(og.ni [a,b,c,d,e,f,a',b',c',d',e',f'] ty L).size<=1560:=by
 have h:=jc (og.ni [a,b,c,d,e,f,a',b',c',d',e',f'] ty L);rw[ah7 a b c d e f a' b' c' d' e' f' ty L h0 hl]at h;have hp:=jc (WR L);have hq:=Z_ L;simp only[bn5]at h;omega
theorem Y5(a b c d e f a' b' c' d' e' f':UInt8)(ty:Int)(L:ByteArray)(h0:1536<=ty)(h1:ty<=65535)(hl:L.size<=1500)(u:fV):
  f_ Vh 33 #[.string (og.ni [a,b,c,d,e,f,a',b',c',d',e',f'] ty L)] u fun ee w'=>ee=.returned (.tuple #[.agg (rI a.toNat b.toNat c.toNat d.toNat e.toNat f.toNat a'.toNat b'.toNat c'.toNat d'.toNat e'.toNat f'.toNat ty (WR L)),Vb Vg 0])/\gm u.heap.size u w':=by
 have hL:=ah7 a b c d e f a' b' c' d' e' f' ty L h0 hl;obtain⟨s,hs⟩:=ex_ (og.ni [a,b,c,d,e,f,a',b',c',d',e',f'] ty L);rw[<-hs]at hL ⊢;clear hs;have hz:=Z_ L;have hp:=jc (WR L);have ht:256*((gJ (ty/256)).toNat:Int)+((gJ ty).toNat:Int)=ty:=by rw[lh,lh];omega
 refine gP.iU s _ _ _ _ _ _ _ _ _ _ _ _ ty (WR L) 0 u (fun u=>gP.nK s _ _ _ _ _ _ _ _ _ _ _ _ ty (WR L) u (fun u B h=> ?_));rw[hL]at h;have q:=gP.Ad B a b c d e f a' b' c' d' e' f' (gJ (ty/256)) (gJ ty) (WR L).data.toList u h (by rw[hp];omega) (by rw[ht];unfold og.bf0;simpa using h0) (by rw[mQ];unfold og.ko;simp only[by6];omega);rw[ht,mQ]at q;exact q
theorem Y4(a b c d e f a' b' c' d' e' f':UInt8)(ty:Int)(L:ByteArray)(h0:1536<=ty)(h1:ty<=65535)(hl:L.size<=1500)(u:fV):
  f_ Vh 19 #[.string (og.ni [a,b,c,d,e,f,a',b',c',d',e',f'] ty L)] u fun ee w'=>ee=.returned (.tuple #[.agg (rI a.toNat b.toNat c.toNat d.toNat e.toNat f.toNat a'.toNat b'.toNat c'.toNat d'.toNat e'.toNat f'.toNat ty (WR L)),Vb Vg 0])/\gm u.heap.size u w':=
 gP.Xu _ _ _ _ _ _ _ _ _ _ _ _ _ ty (WR L) 0 u (fun u=>Y5 a b c d e f a' b' c' d' e' f' ty L h0 h1 hl u)
theorem Zg(id ttl pr fr ta:Int)(load:ByteArray)(ht:0<ttl)(hl:load.size<=1480):Ip.Db id ttl pr fr ta load=⟨(Ip.Ls id ttl pr fr ta load).toArray⟩:=by
 unfold Ip.Db;rw[bo4 (by omega),bp0 hl]
theorem aK8(id ttl pr fr ta:Int)(load:ByteArray)(hi:0<=id/\id<=65535)(ht:0<ttl/\ttl<=255)(hp:0<=pr/\pr<=255)(hf:0<=fr/\fr<=4294967295)(ho:0<=ta/\ta<=4294967295)(hl:load.size<=1480)(u:fV):
  f_ Vh 34 #[.string (WR (Ip.Db id ttl pr fr ta load))] u fun e w'=>e=.returned (.tuple #[.agg (rU id ttl pr fr ta load),Vb Vg 0])/\gm u.heap.size u w':=by
 rw[Zg id ttl pr fr ta load ht.1 hl];obtain⟨m,hm⟩:∃m:List UInt8,m=List.replicate (46-(⟨(Ip.Ls id ttl pr fr ta load).toArray⟩:ByteArray).size) 0:=⟨_,rfl⟩;have hm46:m.length<=46:=by rw[hm,bt4];omega
 have e:WR ⟨(Ip.Ls id ttl pr fr ta load).toArray⟩=⟨(Ip.Ls id ttl pr fr ta load++m).toArray⟩:=by unfold WR;rw[<-hm]
 rw[e];clear e hm;have k:=Sp.aA1 id ttl pr fr ta load m ht hl;have q:=Uy.zX ⟨(Ip.Ls id ttl pr fr ta load++m).toArray⟩ (Ip.Ls id ttl pr fr ta load++m) rfl u (by rw[strSize,Sp.aq1];omega);rw[Lt.pX k,Lt.pX k,Lt.pX k,Lt.pX k,Lt.pX k,Lt.I_ k,k,Sp.aJ9 _ _ _ _ _ _ _ hi,Sp.aD2 _ _ _ _ _ _ _ ⟨by omega,ht.2⟩,Sp.aH0 _ _ _ _ _ _ _ hp,Sp.aH8 _ _ _ _ _ _ _ hf,Sp.aG7 _ _ _ _ _ _ _ ho,Sp.aK7 _ _ _ _ _ _ _ hl,show(⟨load.data.toList.toArray⟩:ByteArray)=load from mQ load]at q;exact q
theorem aN8(id ttl pr fr ta:Int)(load:ByteArray)(hi:0<=id/\id<=65535)(ht:0<ttl/\ttl<=255)(hp:0<=pr/\pr<=255)(hf:0<=fr/\fr<=4294967295)(ho:0<=ta/\ta<=4294967295)(hl:load.size<=1480)(u:fV):
  f_ Vh 20 #[.string (WR (Ip.Db id ttl pr fr ta load))] u fun e w'=>e=.returned (.tuple #[.agg (rU id ttl pr fr ta load),Vb Vg 0])/\gm u.heap.size u w':=
 Uw.Xu _ id ttl pr fr ta load 0 u (fun u=>aK8 id ttl pr fr ta load hi ht hp hf ho hl u)
theorem ax1(f t fr ta:Int)(load:ByteArray)(hF:0<=f/\f<=65535)(hT:0<=t/\t<=65535)(hf:0<=fr/\fr<=4294967295)(ho:0<=ta/\ta<=4294967295)(hl:load.size<=1472)(u:fV):
  f_ Vh 43 (rJ (Ud.sH f t fr ta load) fr ta) u fun e w'=>e=.returned (.tuple #[.agg (rF f t load),Vb Vg 0])/\gm u.heap.size u w':=by
 unfold Ud.sH;rw[bp0 hl];have k:=Sp.aC1 f t fr ta load [] hl;have q:=Uv.zX ⟨(Ud.uG f t fr ta load++ []).toArray⟩ (Ud.uG f t fr ta load++ []) rfl fr ta u (by rw[strSize,Sp.aq0,bp6];omega) hf ho;rw[Ut.sS k,Ut.sS k,Ut.JD k,k,Sp.aM5 _ _ _ _ _ _ hF,Sp.aM4 _ _ _ _ _ _ hT,Sp.aI2 _ _ _ _ _ _ hl,show(⟨load.data.toList.toArray⟩:ByteArray)=load from mQ load,br8]at q;exact q
theorem aG1(f t fr ta:Int)(load:ByteArray)(hF:0<=f/\f<=65535)(hT:0<=t/\t<=65535)(hf:0<=fr/\fr<=4294967295)(ho:0<=ta/\ta<=4294967295)(hl:load.size<=1472)(u:fV):
  f_ Vh 24 (rJ (Ud.sH f t fr ta load) fr ta) u fun e w'=>e=.returned (.tuple #[.agg (rF f t load),Vb Vg 0])/\gm u.heap.size u w':=
 UI.Xu _ f t load 0 fr ta u (fun u=>ax1 f t fr ta load hF hT hf ho hl u)
theorem aG0(op fi ti:Int)(a b c d e f a' b' c' d' e' f':UInt8)(ho:op=1∨op=2)(hf:0<=fi/\fi<=4294967295)(ht:0<=ti/\ti<=4294967295)(u:fV):
  f_ Vh 63 #[.string (WR (WM.vE op [a,b,c,d,e,f] fi [a',b',c',d',e',f'] ti))] u fun ee w'=>ee=.returned (.tuple #[.agg (rE op a.toNat b.toNat c.toNat d.toNat e.toNat f.toNat fi a'.toNat b'.toNat c'.toNat d'.toNat e'.toNat f'.toNat ti),Vb Vg 0])/\gm u.heap.size u w':=by
 have hk:WM.Dp op=true:=by rcases ho with rfl|rfl<;>decide
 have hL:(WR (WM.vE op [a,b,c,d,e,f] fi [a',b',c',d',e',f'] ti)).data.toList=0::1::8::0::6::4::gJ (op/256)::gJ op::a::b::c::d::e::f::gJ (fi/65536/256)::gJ (fi/65536)::gJ (fi%65536/256)::gJ (fi%65536)::a'::b'::c'::d'::e'::f'::gJ (ti/65536/256)::gJ (ti/65536)::gJ (ti%65536/256)::gJ (ti%65536)::List.replicate 18 0:=by
  rw[Z9];unfold WM.vE;rw[hk];rfl
 have h1:256*((gJ (op/256)).toNat:Int)+((gJ op).toNat:Int)=op:=by rw[lh,lh];omega
 have h2:16777216*((gJ (fi/65536/256)).toNat:Int)+65536*((gJ (fi/65536)).toNat:Int)+256*((gJ (fi%65536/256)).toNat:Int)+((gJ (fi%65536)).toNat:Int)=fi:=by rw[lh,lh,lh,lh];omega
 have h3:16777216*((gJ (ti/65536/256)).toNat:Int)+65536*((gJ (ti/65536)).toNat:Int)+256*((gJ (ti%65536/256)).toNat:Int)+((gJ (ti%65536)).toNat:Int)=ti:=by rw[lh,lh,lh,lh];omega
 obtain⟨S,hS⟩:∃S:ByteArray,S=WR (WM.vE op [a,b,c,d,e,f] fi [a',b',c',d',e',f'] ti):=⟨_,rfl⟩;rw[<-hS]at hL ⊢;clear hS;refine QE.iU S op _ _ _ _ _ _ fi _ _ _ _ _ _ ti 0 u (fun u=>QE.nK S op _ _ _ _ _ _ fi _ _ _ _ _ _ ti u (fun u B h=> ?_));rw[hL]at h;have q:=QE.Ih B 0 1 8 0 6 4 (gJ (op/256)) (gJ op) a b c d e f (gJ (fi/65536/256)) (gJ (fi/65536)) (gJ (fi%65536/256)) (gJ (fi%65536)) a' b' c' d' e' f' (gJ (ti/65536/256)) (gJ (ti/65536)) (gJ (ti%65536/256)) (gJ (ti%65536)) (List.replicate 18 0) u h (by simp only[bn5,bt4,maxLen];omega) (by decide) (by rw[h1];rcases ho with rfl|rfl<;>decide);rw[h1,h2,h3]at q;exact q
theorem aG3(op fi ti:Int)(a b c d e f a' b' c' d' e' f':UInt8)(ho:op=1∨op=2)(hf:0<=fi/\fi<=4294967295)(ht:0<=ti/\ti<=4294967295)(u:fV):
  f_ Vh 37 #[.string (WR (WM.vE op [a,b,c,d,e,f] fi [a',b',c',d',e',f'] ti))] u fun ee w'=>ee=.returned (.tuple #[.agg (rE op a.toNat b.toNat c.toNat d.toNat e.toNat f.toNat fi a'.toNat b'.toNat c'.toNat d'.toNat e'.toNat f'.toNat ti),Vb Vg 0])/\gm u.heap.size u w':=
 QE.Xu _ op _ _ _ _ _ _ fi _ _ _ _ _ _ ti 0 u (fun u=>aG0 op fi ti a b c d e f a' b' c' d' e' f' ho hf ht u)
theorem az5(m:Tf.RH)(s:ByteArray)(hs:s=⟨(Tf.U7 m).toArray⟩)(hk:Tf.UU m=0)(hp:Tf.ZO m)(hb:m.block<65536)(hl:(Tf.U7 m).length<=1048576)(u:fV):
  f_ Vh 71 #[.string s] u fun ee w'=>Vl.IE m.fs.length (Tf.Rf m.fs) u (fun sa sc=>.tuple #[.agg (rG m.op m.block ⟨m.text.toArray⟩ ⟨m.data.toArray⟩ sa m.fs.length sc),Vb Vg 0]) ee w':=by
 have hr:=Tf.aM0 m hk hp hb;refine Vl.bf5 s _ _ _ _ _ _ u (fun u2=>Vl.nK s _ _ _ _ m.fs.length (Tf.Rf m.fs) u2 (fun u3 B hB _=> ?_));refine(Tf.aE7 B (Tf.U7 m) u3 (by rw[hs]at hB;exact hB) hl).mono ?_;rintro ee w' ⟨hg,h|⟨_,v,rfl,hown⟩⟩
 ·rw[hr]at h
  exact absurd rfl h.1
 rw[hr]at hown ⊢;obtain⟨sa,sc,rfl⟩:=Tf.ib hown;exact⟨⟨sa,sc,rfl,hown⟩,hg⟩
theorem aG9(m:Tf.RH)(s:ByteArray)(hs:s=⟨(Tf.U7 m).toArray⟩)(hk:Tf.UU m=0)(hp:Tf.ZO m)(hb:m.block<65536)(hl:(Tf.U7 m).length<=1048576)(u:fV):
  f_ Vh 41 #[.string s] u fun ee w'=>Vl.IE m.fs.length (Tf.Rf m.fs) u (fun sa sc=>.tuple #[.agg (rG m.op m.block ⟨m.text.toArray⟩ ⟨m.data.toArray⟩ sa m.fs.length sc),Vb Vg 0]) ee w':=
 Vl.Yq s _ _ _ _ _ _ u (fun u=>az5 m s hs hk hp hb hl u)
end Ho
namespace Ho
open Bs Js
variable{w w':fV} {H:Nat}
theorem ah0(id fr ta:Int)(L:ByteArray)(h:L.size<=1480):(Ip.Db id 9 17 fr ta L).size<=1500:=by
 unfold Ip.Db;rw[bo4 (by decide),bp0 h];show(Ip.Ls _ _ _ _ _ _).toArray.size<=_;rw[bt3,Ip.Ls,bn6,Ip.jY,jc];omega
theorem Sd{w u u':fV}{b:Nat}(t:PU w u b)(hb:gm u.heap.size u u'):PU w u' b:=⟨hb.os.trans t.os,hb.tape.trans t.tape,hb.output.trans t.output,bo6 t.size hb.size,fun k hk hn=>(hb.block k (bo9 hk t.size)).trans (t.block k hk hn)⟩
theorem Zj{h:Host}(k:At w H h)(c:NA w)(hH0:(0:Nat)≠H)(hH1:(1:Nat)≠H)(f t fr ta:Int)(load:ByteArray)(hF:0<=f/\f<=65535)(hT:0<=t/\t<=65535)(hf:0<=fr/\fr<=4294967295)(ht:0<=ta/\ta<=4294967295)(hl:load.size<=262144):
  f_ Vh 70 #[p_ H,.agg (rF f t load),Vb Vf fr,Vb Vf ta] w fun ee w'=>ee=.returned (.string (h.frame f t load fr ta))/\At w' H h.Ww/\PU w w' H:=by
 have hlt:=gG k;have hB:H≠w.heap.size:=bo5 hlt;have c11:w.cell? (a_ H 11)=some (Vb Ve h.id):=k.cell 11;have f11:=k.free 11;have hid:=QQ (h.id+1);have HU:=fun u=>Fe (Ud.Wj f t fr ta load u hF hT hf ht hl);obtain⟨L,hL⟩:=ex_ (Ud.sH f t fr ta load);have hLz:L.size<=1480:=by rw[hL];exact WI _ _ _ _ _
 rw[<-hL]at HU;obtain⟨i1,hi1⟩:=ex_ (IntKind.u16.wrap (h.id+1));rw[<-hi1]at hid;have HI:=fun u=>Fe (Ip.Wj i1 9 17 fr ta L u hid (by omega) (by omega) hf ht (by omega));obtain⟨M,hM⟩:=ex_ (Ip.Db i1 9 17 fr ta L);have hMz:M.size<=1500:=by rw[hM];exact ah0 _ _ _ _ hLz
 rw[<-hM]at HI;have HE:=fun u=>Fe (og.Wj 2 0 0 0 0 42 2 0 0 0 0 7 2048 M u (by decide) (by decide) (by omega));have HFR:Hid (h.frame f t load fr ta=og.ni [2,0,0,0,0,42,2,0,0,0,0,7] 2048 M):=Fe (by rw[hM,hi1,hL];rfl);obtain⟨X,hX⟩:=ex_ ((w.setCell (a_ H 11) (Vb Ve i1)).alloc (.cells (rF f t load) 69));have HX:Hid (At X H h.Ww/\NA X/\PU w X H/\X.heap[w.heap.size]?=some (.cells (rF f t load) 69 (0,0))):=Fe (by
  have ks:At (w.setCell (a_ H 11) (Vb Ve i1)) H h.Ww:=k.set 11 _ (by rw[hi1];rfl)
  have hz:(w.setCell (a_ H 11) (Vb Ve i1)).heap.size=w.heap.size:=by simp[World.setCell]
  have hs:∀j,j<w.heap.size->j≠H->X.heap[j]?=w.heap[j]?:=fun j hj hn=>by rw[hX,bn8 _ _ _ (by rw[hz];exact hj)];exact bo0 _ _ _ _ hn
  refine⟨by rw[hX];exact ks.below b1_,c.of (hs _ c.lt.1 hH0) (hs _ c.lt.2 hH1),⟨by rw[hX];rfl,by rw[hX];rfl,by rw[hX];rfl,by rw[hX];simp[World.setCell],hs⟩,?_⟩
  have q:=bn3 (w.setCell (a_ H 11) (Vb Ve i1)) (.cells (rF f t load) 69)
  rw[hz]at q
  rw[hX];exact q)
 have HIE:Hid (i1=h.Ww.id):=Fe hi1;clear k c hL hM;go_enter func70,ntmps70;go_wp2_with fail;rw[<-hi1,<-hX];clear hX c11 f11 hi1;refine on_ (gB (HU _)) fun u1 hb1=>?_;have H1:Hid (At u1 H h.Ww/\NA u1/\PU w u1 H):=Fe ⟨HX.1.below hb1,HX.2.1.below hb1,Sd HX.2.2.1 hb1⟩;have d11:u1.cell? (a_ H 11)=some (Vb Ve i1):=by rw[H1.1.cell 11,gB HIE];rfl
 clear hb1 HX HU;go_wp2_with fail;refine on_ (gB (HI _)) fun u2 hb2=>?_;have H2:Hid (At u2 H h.Ww/\NA u2/\PU w u2 H):=Fe ⟨H1.1.below hb2,H1.2.1.below hb2,Sd H1.2.2 hb2⟩;obtain⟨g0,g1,g2,g3,g4,g5,g6,g7,g8,g9,g10,g11⟩:=H2.2.1;clear hb2 H1 HI d11;go_wp2_with fail;refine on_ (gB (HE _)) fun u3 hb3=>?_;have H3:Hid (At u3 H h.Ww/\PU w u3 H):=Fe ⟨H2.1.below hb3,Sd H2.2.2 hb3⟩;clear hb3 H2 HE g0 g1 g2 g3 g4 g5 g6 g7 g8 g9 g10 g11;go_wp2;go_ret;rw[gB HFR];exact⟨rfl,H3.1,H3.2⟩
end Ho
namespace Ho
open Bs Js
variable{w0 w w':fV} {Q B H G:Nat} {m m':Mc} {h h':Host}
theorem ap5{P:Nat->Prop}(k:Mx w0 P w B m){g:Nat}{a:Array Value}{t:TypeId}{z:Nat×Nat}(hk:w.heap[g]?=some (.cells a t z))(h1:t≠115)(h2:t≠9)(h3:t≠5): ¬iq B m g:=by
 intro hf
 rcases hf with rfl|rfl|rfl|rfl|hk'
 ·have e:=k.row
  rw[hk]at e;simp only[bq6,br6]at e;exact h1 e.2.1
 ·obtain⟨es,c,e,_⟩:=k.map
  rw[hk]at e;simp at e
 ·obtain⟨_,_,_,_,arr,e,_⟩:=k.came
  rw[hk]at e;simp only[bq6,br6]at e;exact h2 e.2.1
 ·obtain⟨_,_,_,_,arr,e,_⟩:=k.goes
  rw[hk]at e;simp only[bq6,br6]at e;exact h2 e.2.1
 rcases k.image.2 with⟨e,_⟩|⟨g',cap,cur,e1,e2,e3,e4⟩
 ·rw[e]at hk';cases hk'
 rw[e1]at hk';have:g'=g:=bp4 hk';subst this;rw[hk]at e3;simp only[bq6,br6]at e3;exact h3 e3.2.1
theorem moved{P:Nat->Prop}(k:Mx w0 P w B m){b:Nat}(t:PU w w' b)(hb: ¬iq B m b)(hn:4<=b):Mx w' (iq B m) w' B m:=by
 have e:∀j,iq B m j->w'.heap[j]?=w.heap[j]?:=fun j hj=>t.block j (k.ik hj) (fun e=>hb (e▸hj));refine⟨rfl,rfl,rfl,bn7 _,fun _ _ _=>rfl,fun _ h=>bo1 h,⟨bo6 k.low.1 (bo6 k.size t.size),fun j hj=>k.tL hj⟩,fun j hj=> ?_,(e B (bo1 rfl)).trans k.row,oP k.map (e _ (bo3 (bo1 rfl))),k.came.other (e _ (bo3 (bo3 (bo1 rfl)))),k.goes.other (e _ (bo3 (bo3 (bo3 (bo1 rfl))))),k.apart,iN k.image (fun j hj=>e j (bo3 (bo3 (bo3 (bo3 hj)))))⟩;have q:=k.base.gl j hj;have h1:(2:Nat)<w.heap.size:=bo9 (by decide:2<4) (bo6 k.low.1 k.size);have h2:(2:Nat)≠b:=fun e=>absurd (e▸hn) (by decide);simp only[World.cell?]at q ⊢;rw[t.block _ h1 h2];exact q
variable{v:Value} {l:List ByteArray}
end Ho
namespace Ho
open Bs Js
variable{w0 w w':fV} {Q B H G:Nat} {m m':Mc} {h h':Host}
theorem aA{w:fV}{G:Nat}{j:Nat}{v:Value}:PU w (w.setCell (a_ G j) v) G:=⟨rfl,rfl,rfl,by simp[World.setCell],fun k hk hn=>bo0 _ _ _ _ hn⟩
theorem PU.go{w u u':fV}{b:Nat}(t:PU w u b)(s:PU u u' b):PU w u' b:=⟨s.os.trans t.os,s.tape.trans t.tape,s.output.trans t.output,bo6 t.size s.size,fun k hk hn=>(s.block k (bo9 hk t.size) hn).trans (t.block k hk hn)⟩
theorem ao0{u:fV}{g:Nat}{t:TypeId}{a0 a1 a2 a3 a4 a5 a6 a7 a8 a9 a10:Value}(h:u.heap[g]?=some (.cells #[a0,a1,a2,a3,a4,a5,a6,a7,a8,a9,a10] t (0,0))):
  u.cell? (a_ g 0)=some a0/\u.cell? (a_ g 1)=some a1/\u.cell? (a_ g 2)=some a2/\u.cell? (a_ g 3)=some a3/\u.cell? (a_ g 4)=some a4/\u.cell? (a_ g 5)=some a5/\u.cell? (a_ g 6)=some a6/\u.cell? (a_ g 7)=some a7/\u.cell? (a_ g 8)=some a8/\u.cell? (a_ g 9)=some a9/\u.cell? (a_ g 10)=some a10:=
 ⟨bn0 u g 0 _ _ _ h,bn0 u g 1 _ _ _ h,bn0 u g 2 _ _ _ h,bn0 u g 3 _ _ _ h,bn0 u g 4 _ _ _ h,bn0 u g 5 _ _ _ h,bn0 u g 6 _ _ _ h,bn0 u g 7 _ _ _ h,bn0 u g 8 _ _ _ h,bn0 u g 9 _ _ _ h,bn0 u g 10 _ _ _ h⟩
theorem aA0{Y:fV}{G:Nat}{t:TypeId}{z0 z1 z2 z3 z4 z5 z6 z7 z8 z9 z10:Value}(v2 v3 v4 v5 v6 v7 v8 v9 v10:Value)(h:Y.heap[G]?=some (.cells #[z0,z1,z2,z3,z4,z5,z6,z7,z8,z9,z10] t (0,0))):
  (((((((((Y.setCell (a_ G 3) v3).setCell (a_ G 4) v4).setCell (a_ G 5) v5).setCell (a_ G 6) v6).setCell (a_ G 7) v7).setCell (a_ G 8) v8).setCell (a_ G 9) v9).setCell (a_ G 10) v10).setCell (a_ G 2) v2).heap[G]?=some (.cells #[z0,z1,v2,v3,v4,v5,v6,v7,v8,v9,v10] t (0,0))/\PU Y (((((((((Y.setCell (a_ G 3) v3).setCell (a_ G 4) v4).setCell (a_ G 5) v5).setCell (a_ G 6) v6).setCell (a_ G 7) v7).setCell (a_ G 8) v8).setCell (a_ G 9) v9).setCell (a_ G 10) v10).setCell (a_ G 2) v2) G:=by
 refine⟨?_,PU.go (PU.go (PU.go (PU.go (PU.go (PU.go (PU.go (PU.go aA aA) aA) aA) aA) aA) aA) aA) aA⟩;have q:=gI _ 2 v2 (gI _ 10 v10 (gI _ 9 v9 (gI _ 8 v8 (gI _ 7 v7 (gI _ 6 v6 (gI _ 5 v5 (gI _ 4 v4 (gI _ 3 v3 h))))))));simpa only[bm7,bm8,bm9]using q
end Ho
namespace Ho
open Bs Js
variable{w0 w w':fV} {Q B H G:Nat} {m m':Mc} {h h':Host} {R:fV→(Nat→Prop)→Prop}
def bi5(R:fV->(Nat->Prop)->Prop)(m:Mc)(d:Int)(Z:Mc->Prop):Prop:=∀(w:fV) (Q B:Nat),Bx w (iq B m) w Q B m->R w (iq B m)->f_ Vh 15 #[p_ Q,Vb Vf d] w fun ee w'=>ee=.returned (.tuple #[])/\∃mz,Z mz/\Bx w (iq B m) w' Q B mz
def YC(C:fV->Prop)(h:Host)(f:ByteArray)(l:List ByteArray)(h':Host):Prop:=∀(w:fV) (H:Nat),At w H h->C w->4<=H->f_ Vh 23 #[p_ H,.string f] w fun ee w'=>∃ao cp,ee=.returned (.tuple #[.slice ao l.length cp,.bool true])/\w'.ownsRow w.heap.size 9 1 (.slice ao l.length cp) l.length (Js.strs l)/\At w' H h'/\PU w w' H
theorem ao5(a b c d e f g h:Int)(u:fV):(Instr.field 48 (.agg (rC a b c d e f g h)) 2).run Vh u=.ok (Vb Vg c) u:=by kernel_rfl
end Ho
namespace Ho
open Bs Dh
def Y2:gU->UInt8->List UInt8
 |[],_=> []
 |o::r,c=>if o.1=c then o.2 else Y2 r c
theorem aq4(os:gU)(c:UInt8)(k:Nat)(h:k<os.length):Y2 (os.drop k) c=if os[k].1=c then os[k].2 else Y2 (os.drop (k+1)) c:=by
 rw[br9 h];rfl
theorem Ii(a:Option Addr)(cap:Nat)(os:gU)(c:UInt8)(w:fV)(hA:Dh.At w a os)(hl:os.length<=1000):
  f_ Vh 67 #[.slice a os.length cap,Vb Vd c.toNat] w fun e w'=>e=.returned (.string ⟨(Y2 os c).toArray⟩)/\gm w.heap.size w w':=by
 have HA:=Fe hA;clear hA;go_enter func67,ntmps67;go_wp2;go_loopw [9] (fun i wr=>∃k:Nat,k<=os.length/\i=Vb Vg k/\Hid (Y2 os c=Y2 (os.drop k) c)/\Hid (gm w.heap.size w wr)) (fun i _=>os.length-(intOf i).toNat)
 case atStart=>exact⟨0,bp3 _,rfl,Fe rfl,Fe (bn9 _ _)⟩
 obtain⟨k,hk,rfl,HO,HW⟩:=hrel;rename fV=>wr;have hwz:=HW.size
 by_cases hlt:k<os.length
 ·obtain⟨ad,rfl,c0,c1⟩:=HA.below HW (bn7 _) k hlt
  have hd:=aq4 os c k hlt;obtain⟨oc,od,hcd⟩:∃x y,os[k]=(x,y):=⟨_,_,rfl⟩;rw[hcd]at c0 c1 hd;simp only at c0 c1 hd;have HD:=Fe (gB HO▸hd);obtain⟨s,hS⟩:∃s:ByteArray,s=⟨od.toArray⟩:=⟨_,rfl⟩;rw[<-hS]at c1;have HS:=Fe hS;clear hcd hd hS
  by_cases e:oc=c
  ·have q:(((oc.toNat:Nat):Int)==((c.toNat:Nat):Int))=true:=by rw[toNat_eq];simpa using e
   have HE:Hid (Y2 os c=od):=Fe (by rw[gB HD,bp0 e]);clear e HD HO;go_wp2;go_ret;refine⟨?_,HW.alloc hwz _⟩;rw[gB HE,<-gB HS];rfl
  have q:(((oc.toNat:Nat):Int)==((c.toNat:Nat):Int))=false:=by rw[toNat_eq];simpa using e
  have HE:Hid (Y2 os c=Y2 (os.drop (k+1)) c):=Fe (by rw[gB HD,bo4 e]);clear e HD HO;go_wp2;go_roundw
  case rel=>exact⟨k+1,by omega,by go_num,HE,Fe (HW.alloc hwz _)⟩
  simp[intOf];omega
 have e:k=os.length:=by omega
 have HE:Hid (Y2 os c=[]):=Fe (by rw[gB HO,e,bD9];rfl);clear HO e;go_wp2;go_ret;refine⟨?_,HW⟩;rw[gB HE];rfl
end Ho
namespace Ho
open Bs
theorem byte_back(x:Int)(h:0<=x/\x<256):((UInt8.ofNat x.toNat).toNat:Int)=x:=by
 simp;omega
def Xm(n:Int):List UInt8:=[UInt8.ofNat (n/16777216).toNat,UInt8.ofNat (n/65536%256).toNat,UInt8.ofNat (n/256%256).toNat,UInt8.ofNat (n%256).toNat]
theorem aB3(n:Int)(hn:0<=n/\n<=4294967295)(w:fV):f_ Vh 69 #[Vb Vf n] w fun ee w'=>ee=.returned (.string ⟨(Xm n).toArray⟩)/\gm w.heap.size w w':=by
 have hcv:∀(a b c d:Int),(0<=a/\a<256)->(0<=b/\b<256)->(0<=c/\c<256)->(0<=d/\d<256)->(convert 73 9 (.slice (some (a_ w.heap.size 0)) 4 4)).run Vh (w.alloc (.cells #[Vb Vd a,Vb Vd b,Vb Vd c,Vb Vd d] 5))=.ok (.string ⟨#[UInt8.ofNat a.toNat,UInt8.ofNat b.toNat,UInt8.ofNat c.toNat,UInt8.ofNat d.toNat]⟩) (w.alloc (.cells #[Vb Vd a,Vb Vd b,Vb Vd c,Vb Vd d] 5)):=fun a b c d ha hb hc hd=>by
  have q:=bv8 (P:=Vh) (w.alloc (.cells #[Vb Vd a,Vb Vd b,Vb Vd c,Vb Vd d] 5)) 73 9 5 (a_ w.heap.size 0) 4 [UInt8.ofNat a.toNat,UInt8.ofNat b.toNat,UInt8.ofNat c.toNat,UInt8.ofNat d.toNat] br3 bv4 bs8 (fun j hj=>by
   have r:=fun j=>bn0 _ _ j _ _ _ (bn3 w (.cells #[Vb Vd a,Vb Vd b,Vb Vd c,Vb Vd d] 5))
   have hj4:j<4:=hj
   match j,hj4 with
   |0,_=>rw[show(((a_ w.heap.size 0):Addr).add 0)=(a_ w.heap.size 0)from rfl,r 0];exact by5 (fun z=>some (Vb Vd z)) (byte_back a ha).symm
   |1,_=>rw[show(((a_ w.heap.size 0):Addr).add 1)=(a_ w.heap.size 1)from rfl,r 1];exact by5 (fun z=>some (Vb Vd z)) (byte_back b hb).symm
   |2,_=>rw[show(((a_ w.heap.size 0):Addr).add 2)=(a_ w.heap.size 2)from rfl,r 2];exact by5 (fun z=>some (Vb Vd z)) (byte_back c hc).symm
   |3,_=>rw[show(((a_ w.heap.size 0):Addr).add 3)=(a_ w.heap.size 3)from rfl,r 3];exact by5 (fun z=>some (Vb Vd z)) (byte_back d hd).symm)
  exact q
 have hq:=hcv (n/16777216) (n/65536%256) (n/256%256) (n%256) (by omega) (by omega) (by omega) (by omega);clear hcv;go_enter func69,ntmps69;go_wp2;go_ret;exact⟨rfl,(bn9 _ _).alloc (bn7 _) _⟩
end Ho
end Go.Proofs.YtdgacidndknceaaGreatDoor
