import Derived.Test.YtdgacidndknceaaGreatDoorMg04
import Derived.Test.YtdgacidndknceaaGreatDoorMg13
import Derived.Test.YtdgacidndknceaaGreatDoorMg15
set_option linter.all false
set_option maxHeartbeats 400000
open Go.ChangeShapes Go.WideShapes Go.ChangeAt Go.RowKit
open Go renaming World → fV, Calls → f_
open Go.RowKit renaming Below → gm
open Go.Proofs.Tryz renaming prog → Vh
open Go.Proofs.Tryz
namespace Go.Proofs.YtdgacidndknceaaGreatDoor
namespace Ho
open Bs Js
variable{w w':fV} {H:Nat}
structure Host where
 image:ByteArray
 gK:Int
 next:Int
 opts:Bool
 port:Int
 block:Int
 window:Int
 sent:Int
 last:Int
 whn:Int
 now:Int
 id:Int
def Host.cells(h:Host):Array Value:=(rJ h.image h.gK h.next h.opts h.port h.block h.window h.sent h.last h.whn h.now h.id)
def At(w:fV)(H:Nat)(h:Host):Prop:=w.heap[H]?=some (.cells h.cells 39 (0,0))
theorem At.cell{h:Host}(k:At w H h)(j:Nat):w.cell? (a_ H j)=h.cells[j]?:=bn0 w _ j _ _ _ k
theorem At.free{h:Host}(k:At w H h)(j:Nat):w.frozen? (a_ H j)=false:=by unfold At at k;simp[World.frozen?,k]
theorem At.below{h:Host}(k:At w H h)(hb:gm w.heap.size w w'):At w' H h:=(hb.block H (gG k)).trans k
theorem At.set{h h':Host}(k:At w H h)(j:Nat)(v:Value)(e:h.cells.setIfInBounds j v=h'.cells):At (w.setCell (a_ H j) v) H h':=by
 unfold At;rw[<-e];exact gI w j v k
def NA(w:fV):Prop:=w.cell? (a_ 0 0)=some (.int .u8 2)/\w.cell? (a_ 0 1)=some (.int .u8 0)/\w.cell? (a_ 0 2)=some (.int .u8 0)/\w.cell? (a_ 0 3)=some (.int .u8 0)/\w.cell? (a_ 0 4)=some (.int .u8 0)/\w.cell? (a_ 0 5)=some (.int .u8 42)/\w.cell? (a_ 1 0)=some (.int .u8 2)/\w.cell? (a_ 1 1)=some (.int .u8 0)/\w.cell? (a_ 1 2)=some (.int .u8 0)/\w.cell? (a_ 1 3)=some (.int .u8 0)/\w.cell? (a_ 1 4)=some (.int .u8 0)/\w.cell? (a_ 1 5)=some (.int .u8 7)
def Host.Ww(h:Host):Host:={h with id:=IntKind.u16.wrap (h.id+1)}
def Host.frame(h:Host)(f t:Int)(load:ByteArray)(fr ta:Int):ByteArray:=og.ni [2,0,0,0,0,42,2,0,0,0,0,7] 2048 (Ip.Db h.Ww.id 9 17 fr ta (Ud.sH f t fr ta load))
theorem NA.of(c:NA w)(e0:w'.heap[(0:Nat)]?=w.heap[(0:Nat)]?)(e1:w'.heap[(1:Nat)]?=w.heap[(1:Nat)]?):NA w':=by
 unfold NA at c ⊢;simp only[World.cell?]at c ⊢;rw[e0,e1];exact c
theorem NA.lt(c:NA w):0<w.heap.size/\1<w.heap.size:=by
 obtain⟨a,_,_,_,_,_,b,_⟩:=c;constructor
 ·cases e:w.heap[(0:Nat)]? with
  |none=>simp[World.cell?,e]at a
  |some o=>exact gG e
 cases e:w.heap[(1:Nat)]? with
 |none=>simp[World.cell?,e]at b
 |some o=>exact gG e
theorem NA.below(c:NA w)(hb:gm w.heap.size w w'):NA w':=c.of (hb.block _ c.lt.1) (hb.block _ c.lt.2)
end Ho
namespace Ho
open Bs Rd
theorem strSize(a:List UInt8):(⟨a.toArray⟩:ByteArray).size=a.length:=by simp[ByteArray.size]
def WR(L:ByteArray):ByteArray:=⟨(L.data.toList++List.replicate (46-L.size) 0).toArray⟩
theorem Z9(L:ByteArray):(WR L).data.toList=L.data.toList++List.replicate (46-L.size) 0:=rfl
theorem Z_(L:ByteArray):(WR L).size=L.size+(46-L.size):=by
 unfold WR;rw[strSize,bn6,bt4,jc]
theorem ah7(a b c d e f a' b' c' d' e' f':UInt8)(ty:Int)(L:ByteArray)(h0:1536<=ty)(hl:L.size<=1500):(og.ni [a,b,c,d,e,f,a',b',c',d',e',f'] ty L).data.toList=a::b::c::d::e::f::a'::b'::c'::d'::e'::f'::gJ (ty/256)::gJ ty::(WR L).data.toList:=by
 have k1:og.ug ty=true:=by unfold og.ug;simpa using h0
 have k2:og.ko L=true:=by unfold og.ko;simpa using hl
 have hls:=jc L;unfold og.ni;rw[k1,k2,Z9];show og.Ee _ ty L=_;unfold og.Ee;have e:60-([a,b,c,d,e,f,a',b',c',d',e',f']++iy ty++L.data.toList).length=46-L.size:=by
  simp only[bn6,hls,iy,bn5,bp6];omega
 rw[e];simp[iy]
theorem Xj(a b c d e f a' b' c' d' e' f':UInt8)(ty:Int)(L:ByteArray)(h0:1536<=ty)(hl:L.size<=1500):60<=(og.ni [a,b,c,d,e,f,a',b',c',d',e',f'] ty L).size/\(og.ni [a,b,c,d,e,f,a',b',c',d',e',f'] ty L).size<=1560:=by
 have h:=jc (og.ni [a,b,c,d,e,f,a',b',c',d',e',f'] ty L);rw[ah7 a b c d e f a' b' c' d' e' f' ty L h0 hl]at h;have hp:=jc (WR L);have hq:=Z_ L;simp only[bn5]at h;omega
theorem Y5(a b c d e f a' b' c' d' e' f':UInt8)(ty:Int)(L:ByteArray)(h0:1536<=ty)(h1:ty<=65535)(hl:L.size<=1500)(u:fV):
  f_ Vh 33 #[.string (og.ni [a,b,c,d,e,f,a',b',c',d',e',f'] ty L)] u fun ee w'=>ee=.returned (.tuple #[.agg (rF a.toNat b.toNat c.toNat d.toNat e.toNat f.toNat a'.toNat b'.toNat c'.toNat d'.toNat e'.toNat f'.toNat ty (WR L)),.int .i64 0])/\gm u.heap.size u w':=by
 have hL:=ah7 a b c d e f a' b' c' d' e' f' ty L h0 hl;obtain⟨s,hs⟩:=ex_ (og.ni [a,b,c,d,e,f,a',b',c',d',e',f'] ty L);rw[<-hs]at hL ⊢;clear hs;have hz:=Z_ L;have hp:=jc (WR L);have ht:256*((gJ (ty/256)).toNat:Int)+((gJ ty).toNat:Int)=ty:=by rw[lh,lh];omega
 refine gP.iU s _ _ _ _ _ _ _ _ _ _ _ _ ty (WR L) 0 u (fun u=>gP.nK s _ _ _ _ _ _ _ _ _ _ _ _ ty (WR L) u (fun u B h=> ?_));rw[hL]at h;have q:=gP.Ad B a b c d e f a' b' c' d' e' f' (gJ (ty/256)) (gJ ty) (WR L).data.toList u h (by rw[hp];omega) (by rw[ht];unfold og.ug;simpa using h0) (by rw[mQ];unfold og.ko;simp only[by6];omega);rw[ht,mQ]at q;exact q
theorem Y4(a b c d e f a' b' c' d' e' f':UInt8)(ty:Int)(L:ByteArray)(h0:1536<=ty)(h1:ty<=65535)(hl:L.size<=1500)(u:fV):
  f_ Vh 19 #[.string (og.ni [a,b,c,d,e,f,a',b',c',d',e',f'] ty L)] u fun ee w'=>ee=.returned (.tuple #[.agg (rF a.toNat b.toNat c.toNat d.toNat e.toNat f.toNat a'.toNat b'.toNat c'.toNat d'.toNat e'.toNat f'.toNat ty (WR L)),.int .i64 0])/\gm u.heap.size u w':=
 gP.Xu _ _ _ _ _ _ _ _ _ _ _ _ _ ty (WR L) 0 u (fun u=>Y5 a b c d e f a' b' c' d' e' f' ty L h0 h1 hl u)
theorem Zg(id ttl pr fr ta:Int)(load:ByteArray)(ht:0<ttl)(hl:load.size<=1480):Ip.Db id ttl pr fr ta load=⟨(Ip.Ls id ttl pr fr ta load).toArray⟩:=by
 unfold Ip.Db;rw[bo4 (by omega),bp0 hl]
theorem aK8(id ttl pr fr ta:Int)(load:ByteArray)(hi:0<=id/\id<=65535)(ht:0<ttl/\ttl<=255)(hp:0<=pr/\pr<=255)(hf:0<=fr/\fr<=4294967295)(ho:0<=ta/\ta<=4294967295)(hl:load.size<=1480)(u:fV):
  f_ Vh 34 #[.string (WR (Ip.Db id ttl pr fr ta load))] u fun e w'=>e=.returned (.tuple #[.agg (rU id ttl pr fr ta load),.int .i64 0])/\gm u.heap.size u w':=by
 rw[Zg id ttl pr fr ta load ht.1 hl];obtain⟨m,hm⟩:∃m:List UInt8,m=List.replicate (46-(⟨(Ip.Ls id ttl pr fr ta load).toArray⟩:ByteArray).size) 0:=⟨_,rfl⟩;have hm46:m.length<=46:=by rw[hm,bt4];omega
 have e:WR ⟨(Ip.Ls id ttl pr fr ta load).toArray⟩=⟨(Ip.Ls id ttl pr fr ta load++m).toArray⟩:=by unfold WR;rw[<-hm]
 rw[e];clear e hm;have k:=Sp.aA1 id ttl pr fr ta load m ht hl;have q:=Uy.zX ⟨(Ip.Ls id ttl pr fr ta load++m).toArray⟩ (Ip.Ls id ttl pr fr ta load++m) rfl u (by rw[strSize,Sp.aq1];omega);rw[Lt.pX k,Lt.pX k,Lt.pX k,Lt.pX k,Lt.pX k,Lt.I_ k,k,Sp.aJ9 _ _ _ _ _ _ _ hi,Sp.aD2 _ _ _ _ _ _ _ ⟨by omega,ht.2⟩,Sp.aH0 _ _ _ _ _ _ _ hp,Sp.aH8 _ _ _ _ _ _ _ hf,Sp.aG7 _ _ _ _ _ _ _ ho,Sp.aK7 _ _ _ _ _ _ _ hl,show(⟨load.data.toList.toArray⟩:ByteArray)=load from mQ load]at q;exact q
theorem aN8(id ttl pr fr ta:Int)(load:ByteArray)(hi:0<=id/\id<=65535)(ht:0<ttl/\ttl<=255)(hp:0<=pr/\pr<=255)(hf:0<=fr/\fr<=4294967295)(ho:0<=ta/\ta<=4294967295)(hl:load.size<=1480)(u:fV):
  f_ Vh 20 #[.string (WR (Ip.Db id ttl pr fr ta load))] u fun e w'=>e=.returned (.tuple #[.agg (rU id ttl pr fr ta load),.int .i64 0])/\gm u.heap.size u w':=
 Uw.Xu _ id ttl pr fr ta load 0 u (fun u=>aK8 id ttl pr fr ta load hi ht hp hf ho hl u)
theorem ax1(f t fr ta:Int)(load:ByteArray)(hF:0<=f/\f<=65535)(hT:0<=t/\t<=65535)(hf:0<=fr/\fr<=4294967295)(ho:0<=ta/\ta<=4294967295)(hl:load.size<=1472)(u:fV):
  f_ Vh 43 (rO (Ud.sH f t fr ta load) fr ta) u fun e w'=>e=.returned (.tuple #[.agg (rI f t load),.int .i64 0])/\gm u.heap.size u w':=by
 unfold Ud.sH;rw[bp0 hl];have k:=Sp.aC1 f t fr ta load [] hl;have q:=Uv.zX ⟨(Ud.uG f t fr ta load++ []).toArray⟩ (Ud.uG f t fr ta load++ []) rfl fr ta u (by rw[strSize,Sp.aq0,bp6];omega) hf ho;rw[Ut.sS k,Ut.sS k,Ut.JD k,k,Sp.aM5 _ _ _ _ _ _ hF,Sp.aM4 _ _ _ _ _ _ hT,Sp.aI2 _ _ _ _ _ _ hl,show(⟨load.data.toList.toArray⟩:ByteArray)=load from mQ load,br8]at q;exact q
theorem aG1(f t fr ta:Int)(load:ByteArray)(hF:0<=f/\f<=65535)(hT:0<=t/\t<=65535)(hf:0<=fr/\fr<=4294967295)(ho:0<=ta/\ta<=4294967295)(hl:load.size<=1472)(u:fV):
  f_ Vh 24 (rO (Ud.sH f t fr ta load) fr ta) u fun e w'=>e=.returned (.tuple #[.agg (rI f t load),.int .i64 0])/\gm u.heap.size u w':=
 UI.Xu _ f t load 0 fr ta u (fun u=>ax1 f t fr ta load hF hT hf ho hl u)
theorem aG0(op fi ti:Int)(a b c d e f a' b' c' d' e' f':UInt8)(ho:op=1∨op=2)(hf:0<=fi/\fi<=4294967295)(ht:0<=ti/\ti<=4294967295)(u:fV):
  f_ Vh 63 #[.string (WR (WM.vE op [a,b,c,d,e,f] fi [a',b',c',d',e',f'] ti))] u fun ee w'=>ee=.returned (.tuple #[.agg (rE op a.toNat b.toNat c.toNat d.toNat e.toNat f.toNat fi a'.toNat b'.toNat c'.toNat d'.toNat e'.toNat f'.toNat ti),.int .i64 0])/\gm u.heap.size u w':=by
 have hk:WM.Dp op=true:=by rcases ho with rfl|rfl<;>decide
 have hL:(WR (WM.vE op [a,b,c,d,e,f] fi [a',b',c',d',e',f'] ti)).data.toList=0::1::8::0::6::4::gJ (op/256)::gJ op::a::b::c::d::e::f::gJ (fi/65536/256)::gJ (fi/65536)::gJ (fi%65536/256)::gJ (fi%65536)::a'::b'::c'::d'::e'::f'::gJ (ti/65536/256)::gJ (ti/65536)::gJ (ti%65536/256)::gJ (ti%65536)::List.replicate 18 0:=by
  rw[Z9];unfold WM.vE;rw[hk];rfl
 have h1:256*((gJ (op/256)).toNat:Int)+((gJ op).toNat:Int)=op:=by rw[lh,lh];omega
 have h2:16777216*((gJ (fi/65536/256)).toNat:Int)+65536*((gJ (fi/65536)).toNat:Int)+256*((gJ (fi%65536/256)).toNat:Int)+((gJ (fi%65536)).toNat:Int)=fi:=by rw[lh,lh,lh,lh];omega
 have h3:16777216*((gJ (ti/65536/256)).toNat:Int)+65536*((gJ (ti/65536)).toNat:Int)+256*((gJ (ti%65536/256)).toNat:Int)+((gJ (ti%65536)).toNat:Int)=ti:=by rw[lh,lh,lh,lh];omega
 obtain⟨S,hS⟩:∃S:ByteArray,S=WR (WM.vE op [a,b,c,d,e,f] fi [a',b',c',d',e',f'] ti):=⟨_,rfl⟩;rw[<-hS]at hL ⊢;clear hS;refine QE.iU S op _ _ _ _ _ _ fi _ _ _ _ _ _ ti 0 u (fun u=>QE.nK S op _ _ _ _ _ _ fi _ _ _ _ _ _ ti u (fun u B h=> ?_));rw[hL]at h;have q:=QE.Ih B 0 1 8 0 6 4 (gJ (op/256)) (gJ op) a b c d e f (gJ (fi/65536/256)) (gJ (fi/65536)) (gJ (fi%65536/256)) (gJ (fi%65536)) a' b' c' d' e' f' (gJ (ti/65536/256)) (gJ (ti/65536)) (gJ (ti%65536/256)) (gJ (ti%65536)) (List.replicate 18 0) u h (by simp only[bn5,bt4,maxLen];omega) (by decide) (by rw[h1];rcases ho with rfl|rfl<;>decide);rw[h1,h2,h3]at q;exact q
theorem aG3(op fi ti:Int)(a b c d e f a' b' c' d' e' f':UInt8)(ho:op=1∨op=2)(hf:0<=fi/\fi<=4294967295)(ht:0<=ti/\ti<=4294967295)(u:fV):
  f_ Vh 37 #[.string (WR (WM.vE op [a,b,c,d,e,f] fi [a',b',c',d',e',f'] ti))] u fun ee w'=>ee=.returned (.tuple #[.agg (rE op a.toNat b.toNat c.toNat d.toNat e.toNat f.toNat fi a'.toNat b'.toNat c'.toNat d'.toNat e'.toNat f'.toNat ti),.int .i64 0])/\gm u.heap.size u w':=
 QE.Xu _ op _ _ _ _ _ _ fi _ _ _ _ _ _ ti 0 u (fun u=>aG0 op fi ti a b c d e f a' b' c' d' e' f' ho hf ht u)
theorem az5(m:Tf.RH)(s:ByteArray)(hs:s=⟨(Tf.U7 m).toArray⟩)(hk:Tf.UU m=0)(hp:Tf.ZO m)(hb:m.block<65536)(hl:(Tf.U7 m).length<=1048576)(u:fV):
  f_ Vh 71 #[.string s] u fun ee w'=>Vl.IE m.fs.length (Tf.Rf m.fs) u (fun sa sc=>.tuple #[.agg (rG m.op m.block ⟨m.text.toArray⟩ ⟨m.data.toArray⟩ sa m.fs.length sc),.int .i64 0]) ee w':=by
 have hr:=Tf.aM0 m hk hp hb;refine Vl.Hl s _ _ _ _ _ _ u (fun u2=>Vl.nK s _ _ _ _ m.fs.length (Tf.Rf m.fs) u2 (fun u3 B hB _=> ?_));refine(Tf.aE7 B (Tf.U7 m) u3 (by rw[hs]at hB;exact hB) hl).mono ?_;rintro ee w' ⟨hg,h|⟨_,v,rfl,hown⟩⟩
 ·rw[hr]at h
  exact absurd rfl h.1
 rw[hr]at hown ⊢;obtain⟨sa,sc,rfl⟩:=Tf.ib hown;exact⟨⟨sa,sc,rfl,hown⟩,hg⟩
theorem aG9(m:Tf.RH)(s:ByteArray)(hs:s=⟨(Tf.U7 m).toArray⟩)(hk:Tf.UU m=0)(hp:Tf.ZO m)(hb:m.block<65536)(hl:(Tf.U7 m).length<=1048576)(u:fV):
  f_ Vh 41 #[.string s] u fun ee w'=>Vl.IE m.fs.length (Tf.Rf m.fs) u (fun sa sc=>.tuple #[.agg (rG m.op m.block ⟨m.text.toArray⟩ ⟨m.data.toArray⟩ sa m.fs.length sc),.int .i64 0]) ee w':=
 Vl.Yq s _ _ _ _ _ _ u (fun u=>az5 m s hs hk hp hb hl u)
end Ho
end Go.Proofs.YtdgacidndknceaaGreatDoor
