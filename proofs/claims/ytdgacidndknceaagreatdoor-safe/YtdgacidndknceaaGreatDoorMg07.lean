import Derived.Test.YtdgacidndknceaaGreatDoorMg02
import Derived.Test.YtdgacidndknceaaGreatDoorMg14
import Derived.Test.YtdgacidndknceaaGreatDoorMg16
set_option linter.all false
set_option maxHeartbeats 2000000
set_option maxRecDepth 10000
open Go.ChangeShapes Go.WideShapes Go.ChangeAt Go.RowKit
open Go renaming World → fV, Calls → f_
open Go.RowKit renaming Below → gm
open Go.Proofs.Tryz renaming prog → Vh
open Go.Value renaming int → Vb
open Go.IntKind renaming u8 → Vd, u16 → Ve, u32 → Vf, i64 → Vg
open Go.Proofs.Tryz
namespace Go.Proofs.YtdgacidndknceaaGreatDoor
namespace Ho
open Bs Js
variable{w w':fV} {H:Nat}
structure Host where
 image:ByteArray
 gK:Int
 next:Int
 opts:Bool
 port:Int
 block:Int
 window:Int
 sent:Int
 last:Int
 whn:Int
 now:Int
 id:Int
def Host.cells(h:Host):Array Value:=#[.string h.image,Vb Vf h.gK,Vb Vf h.next,.bool h.opts,Vb Ve h.port,Vb Vg h.block,Vb Vg h.window,Vb Vg h.sent,Vb Vg h.last,Vb Vg h.whn,Vb Vg h.now,Vb Ve h.id]
def At(w:fV)(H:Nat)(h:Host):Prop:=w.heap[H]?=some (.cells h.cells 39 (0,0))
theorem At.cell{h:Host}(k:At w H h)(j:Nat):w.cell? (a_ H j)=h.cells[j]?:=aS3 w _ j _ _ _ k
theorem At.free{h:Host}(k:At w H h)(j:Nat):w.frozen? (a_ H j)=false:=by unfold At at k;simp[World.frozen?,k]
theorem At.below{h:Host}(k:At w H h)(hb:gm w.heap.size w w'):At w' H h:=(hb.block H (gG k)).trans k
theorem At.set{h h':Host}(k:At w H h)(j:Nat)(v:Value)(e:h.cells.setIfInBounds j v=h'.cells):At (w.setCell (a_ H j) v) H h':=by
 unfold At;rw[<-e];exact gI w j v k
def NA(w:fV):Prop:=w.cell? (a_ 0 0)=some (Vb Vd 2)/\w.cell? (a_ 0 1)=some (Vb Vd 0)/\w.cell? (a_ 0 2)=some (Vb Vd 0)/\w.cell? (a_ 0 3)=some (Vb Vd 0)/\w.cell? (a_ 0 4)=some (Vb Vd 0)/\w.cell? (a_ 0 5)=some (Vb Vd 42)/\w.cell? (a_ 1 0)=some (Vb Vd 2)/\w.cell? (a_ 1 1)=some (Vb Vd 0)/\w.cell? (a_ 1 2)=some (Vb Vd 0)/\w.cell? (a_ 1 3)=some (Vb Vd 0)/\w.cell? (a_ 1 4)=some (Vb Vd 0)/\w.cell? (a_ 1 5)=some (Vb Vd 7)
def Host.Ww(h:Host):Host:={h with id:=IntKind.u16.wrap (h.id+1)}
def Host.frame(h:Host)(f t:Int)(load:ByteArray)(fr ta:Int):ByteArray:=og.ni [2,0,0,0,0,42,2,0,0,0,0,7] 2048 (Ip.Db h.Ww.id 9 17 fr ta (Ud.sH f t fr ta load))
theorem NA.of(c:NA w)(e0:w'.heap[(0:Nat)]?=w.heap[(0:Nat)]?)(e1:w'.heap[(1:Nat)]?=w.heap[(1:Nat)]?):NA w':=by
 unfold NA at c ⊢;simp only[World.cell?]at c ⊢;rw[e0,e1];exact c
theorem NA.lt(c:NA w):0<w.heap.size/\1<w.heap.size:=by
 obtain⟨a,_,_,_,_,_,b,_⟩:=c;constructor
 ·cases e:w.heap[(0:Nat)]? with
  |none=>simp[World.cell?,e]at a
  |some o=>exact gG e
 cases e:w.heap[(1:Nat)]? with
 |none=>simp[World.cell?,e]at b
 |some o=>exact gG e
theorem NA.below(c:NA w)(hb:gm w.heap.size w w'):NA w':=c.of (hb.block _ c.lt.1) (hb.block _ c.lt.2)
end Ho
namespace Ho
open Bs Rd
theorem strSize(a:List UInt8):(⟨a.toArray⟩:ByteArray).size=a.length:=by simp[ByteArray.size]
def WR(L:ByteArray):ByteArray:=⟨(L.data.toList++List.replicate (46-L.size) 0).toArray⟩
theorem Z9(L:ByteArray):(WR L).data.toList=L.data.toList++List.replicate (46-L.size) 0:=rfl
theorem Z_(L:ByteArray):(WR L).size=L.size+(46-L.size):=by
 unfold WR;rw[strSize,aS9,aX7,jc]
theorem ah7(a b c d e f a' b' c' d' e' f':UInt8)(ty:Int)(L:ByteArray)(h0:1536<=ty)(hl:L.size<=1500):(og.ni [a,b,c,d,e,f,a',b',c',d',e',f'] ty L).data.toList=a::b::c::d::e::f::a'::b'::c'::d'::e'::f'::gJ (ty/256)::gJ ty::(WR L).data.toList:=by
 have k1:og.X6 ty=true:=by unfold og.X6;simpa using h0
 have k2:og.ko L=true:=by unfold og.ko;simpa using hl
 have hls:=jc L;unfold og.ni;rw[k1,k2,Z9];show og.Ee _ ty L=_;unfold og.Ee;have e:60-([a,b,c,d,e,f,a',b',c',d',e',f']++iy ty++L.data.toList).length=46-L.size:=by
  simp only[aS9,hls,iy,aT0,aU3];omega
 rw[e];simp[iy]
theorem Xj(a b c d e f a' b' c' d' e' f':UInt8)(ty:Int)(L:ByteArray)(h0:1536<=ty)(hl:L.size<=1500):60<=(og.ni [a,b,c,d,e,f,a',b',c',d',e',f'] ty L).size/\(og.ni [a,b,c,d,e,f,a',b',c',d',e',f'] ty L).size<=1560:=by
 have h:=jc (og.ni [a,b,c,d,e,f,a',b',c',d',e',f'] ty L);rw[ah7 a b c d e f a' b' c' d' e' f' ty L h0 hl]at h;have hp:=jc (WR L);have hq:=Z_ L;simp only[aT0]at h;omega
theorem Y5(a b c d e f a' b' c' d' e' f':UInt8)(ty:Int)(L:ByteArray)(h0:1536<=ty)(h1:ty<=65535)(hl:L.size<=1500)(u:fV):
  f_ Vh 33 #[.string (og.ni [a,b,c,d,e,f,a',b',c',d',e',f'] ty L)] u fun ee w'=>ee=.returned (.tuple #[.agg (rM a.toNat b.toNat c.toNat d.toNat e.toNat f.toNat a'.toNat b'.toNat c'.toNat d'.toNat e'.toNat f'.toNat ty (WR L)),Vb Vg 0])/\gm u.heap.size u w':=by
 have hL:=ah7 a b c d e f a' b' c' d' e' f' ty L h0 hl;obtain⟨s,hs⟩:=ex_ (og.ni [a,b,c,d,e,f,a',b',c',d',e',f'] ty L);rw[<-hs]at hL ⊢;clear hs;have hz:=Z_ L;have hp:=jc (WR L);have ht:256*((gJ (ty/256)).toNat:Int)+((gJ ty).toNat:Int)=ty:=by rw[lh,lh];omega
 refine gP.iU s _ _ _ _ _ _ _ _ _ _ _ _ ty (WR L) 0 u (fun u=>gP.nK s _ _ _ _ _ _ _ _ _ _ _ _ ty (WR L) u (fun u B h=> ?_));rw[hL]at h;have q:=gP.Ad B a b c d e f a' b' c' d' e' f' (gJ (ty/256)) (gJ ty) (WR L).data.toList u h (by rw[hp];omega) (by rw[ht];unfold og.X6;simpa using h0) (by rw[mQ];unfold og.ko;simp only[be8];omega);rw[ht,mQ]at q;exact q
theorem Y4(a b c d e f a' b' c' d' e' f':UInt8)(ty:Int)(L:ByteArray)(h0:1536<=ty)(h1:ty<=65535)(hl:L.size<=1500)(u:fV):
  f_ Vh 19 #[.string (og.ni [a,b,c,d,e,f,a',b',c',d',e',f'] ty L)] u fun ee w'=>ee=.returned (.tuple #[.agg (rM a.toNat b.toNat c.toNat d.toNat e.toNat f.toNat a'.toNat b'.toNat c'.toNat d'.toNat e'.toNat f'.toNat ty (WR L)),Vb Vg 0])/\gm u.heap.size u w':=
 gP.Xu _ _ _ _ _ _ _ _ _ _ _ _ _ ty (WR L) 0 u (fun u=>Y5 a b c d e f a' b' c' d' e' f' ty L h0 h1 hl u)
theorem Zg(id ttl pr fr ta:Int)(load:ByteArray)(ht:0<ttl)(hl:load.size<=1480):Ip.Db id ttl pr fr ta load=⟨(Ip.Ls id ttl pr fr ta load).toArray⟩:=by
 unfold Ip.Db;rw[aT4 (by omega),aU0 hl]
theorem aK8(id ttl pr fr ta:Int)(load:ByteArray)(hi:0<=id/\id<=65535)(ht:0<ttl/\ttl<=255)(hp:0<=pr/\pr<=255)(hf:0<=fr/\fr<=4294967295)(ho:0<=ta/\ta<=4294967295)(hl:load.size<=1480)(u:fV):
  f_ Vh 34 #[.string (WR (Ip.Db id ttl pr fr ta load))] u fun e w'=>e=.returned (.tuple #[.agg (rU id ttl pr fr ta load),Vb Vg 0])/\gm u.heap.size u w':=by
 rw[Zg id ttl pr fr ta load ht.1 hl];obtain⟨m,hm⟩:∃m:List UInt8,m=List.replicate (46-(⟨(Ip.Ls id ttl pr fr ta load).toArray⟩:ByteArray).size) 0:=⟨_,rfl⟩;have hm46:m.length<=46:=by rw[hm,aX7];omega
 have e:WR ⟨(Ip.Ls id ttl pr fr ta load).toArray⟩=⟨(Ip.Ls id ttl pr fr ta load++m).toArray⟩:=by unfold WR;rw[<-hm]
 rw[e];clear e hm;have k:=Sp.aA1 id ttl pr fr ta load m ht hl;have q:=Uy.zX ⟨(Ip.Ls id ttl pr fr ta load++m).toArray⟩ (Ip.Ls id ttl pr fr ta load++m) rfl u (by rw[strSize,Sp.aq1];omega);rw[Lt.pX k,Lt.pX k,Lt.pX k,Lt.pX k,Lt.pX k,Lt.I_ k,k,Sp.aJ9 _ _ _ _ _ _ _ hi,Sp.aD2 _ _ _ _ _ _ _ ⟨by omega,ht.2⟩,Sp.aH0 _ _ _ _ _ _ _ hp,Sp.aH8 _ _ _ _ _ _ _ hf,Sp.aG7 _ _ _ _ _ _ _ ho,Sp.aK7 _ _ _ _ _ _ _ hl,show(⟨load.data.toList.toArray⟩:ByteArray)=load from mQ load]at q;exact q
theorem aN8(id ttl pr fr ta:Int)(load:ByteArray)(hi:0<=id/\id<=65535)(ht:0<ttl/\ttl<=255)(hp:0<=pr/\pr<=255)(hf:0<=fr/\fr<=4294967295)(ho:0<=ta/\ta<=4294967295)(hl:load.size<=1480)(u:fV):
  f_ Vh 20 #[.string (WR (Ip.Db id ttl pr fr ta load))] u fun e w'=>e=.returned (.tuple #[.agg (rU id ttl pr fr ta load),Vb Vg 0])/\gm u.heap.size u w':=
 Uw.Xu _ id ttl pr fr ta load 0 u (fun u=>aK8 id ttl pr fr ta load hi ht hp hf ho hl u)
theorem ax1(f t fr ta:Int)(load:ByteArray)(hF:0<=f/\f<=65535)(hT:0<=t/\t<=65535)(hf:0<=fr/\fr<=4294967295)(ho:0<=ta/\ta<=4294967295)(hl:load.size<=1472)(u:fV):
  f_ Vh 43 (rO (Ud.sH f t fr ta load) fr ta) u fun e w'=>e=.returned (.tuple #[.agg (rI f t load),Vb Vg 0])/\gm u.heap.size u w':=by
 unfold Ud.sH;rw[aU0 hl];have k:=Sp.aC1 f t fr ta load [] hl;have q:=Uv.zX ⟨(Ud.uG f t fr ta load++ []).toArray⟩ (Ud.uG f t fr ta load++ []) rfl fr ta u (by rw[strSize,Sp.aq0,aU3];omega) hf ho;rw[Ut.sS k,Ut.sS k,Ut.JD k,k,Sp.aM5 _ _ _ _ _ _ hF,Sp.aM4 _ _ _ _ _ _ hT,Sp.aI2 _ _ _ _ _ _ hl,show(⟨load.data.toList.toArray⟩:ByteArray)=load from mQ load,aW7]at q;exact q
theorem aG1(f t fr ta:Int)(load:ByteArray)(hF:0<=f/\f<=65535)(hT:0<=t/\t<=65535)(hf:0<=fr/\fr<=4294967295)(ho:0<=ta/\ta<=4294967295)(hl:load.size<=1472)(u:fV):
  f_ Vh 24 (rO (Ud.sH f t fr ta load) fr ta) u fun e w'=>e=.returned (.tuple #[.agg (rI f t load),Vb Vg 0])/\gm u.heap.size u w':=
 UI.Xu _ f t load 0 fr ta u (fun u=>ax1 f t fr ta load hF hT hf ho hl u)
theorem aG0(op fi ti:Int)(a b c d e f a' b' c' d' e' f':UInt8)(ho:op=1∨op=2)(hf:0<=fi/\fi<=4294967295)(ht:0<=ti/\ti<=4294967295)(u:fV):
  f_ Vh 63 #[.string (WR (WM.vE op [a,b,c,d,e,f] fi [a',b',c',d',e',f'] ti))] u fun ee w'=>ee=.returned (.tuple #[.agg (rE op a.toNat b.toNat c.toNat d.toNat e.toNat f.toNat fi a'.toNat b'.toNat c'.toNat d'.toNat e'.toNat f'.toNat ti),Vb Vg 0])/\gm u.heap.size u w':=by
 have hk:WM.Dp op=true:=by rcases ho with rfl|rfl<;>decide
 have hL:(WR (WM.vE op [a,b,c,d,e,f] fi [a',b',c',d',e',f'] ti)).data.toList=0::1::8::0::6::4::gJ (op/256)::gJ op::a::b::c::d::e::f::gJ (fi/65536/256)::gJ (fi/65536)::gJ (fi%65536/256)::gJ (fi%65536)::a'::b'::c'::d'::e'::f'::gJ (ti/65536/256)::gJ (ti/65536)::gJ (ti%65536/256)::gJ (ti%65536)::List.replicate 18 0:=by
  rw[Z9];unfold WM.vE;rw[hk];rfl
 have h1:256*((gJ (op/256)).toNat:Int)+((gJ op).toNat:Int)=op:=by rw[lh,lh];omega
 have h2:16777216*((gJ (fi/65536/256)).toNat:Int)+65536*((gJ (fi/65536)).toNat:Int)+256*((gJ (fi%65536/256)).toNat:Int)+((gJ (fi%65536)).toNat:Int)=fi:=by rw[lh,lh,lh,lh];omega
 have h3:16777216*((gJ (ti/65536/256)).toNat:Int)+65536*((gJ (ti/65536)).toNat:Int)+256*((gJ (ti%65536/256)).toNat:Int)+((gJ (ti%65536)).toNat:Int)=ti:=by rw[lh,lh,lh,lh];omega
 obtain⟨S,hS⟩:∃S:ByteArray,S=WR (WM.vE op [a,b,c,d,e,f] fi [a',b',c',d',e',f'] ti):=⟨_,rfl⟩;rw[<-hS]at hL ⊢;clear hS;refine QE.iU S op _ _ _ _ _ _ fi _ _ _ _ _ _ ti 0 u (fun u=>QE.nK S op _ _ _ _ _ _ fi _ _ _ _ _ _ ti u (fun u B h=> ?_));rw[hL]at h;have q:=QE.Ih B 0 1 8 0 6 4 (gJ (op/256)) (gJ op) a b c d e f (gJ (fi/65536/256)) (gJ (fi/65536)) (gJ (fi%65536/256)) (gJ (fi%65536)) a' b' c' d' e' f' (gJ (ti/65536/256)) (gJ (ti/65536)) (gJ (ti%65536/256)) (gJ (ti%65536)) (List.replicate 18 0) u h (by simp only[aT0,aX7,maxLen];omega) (by decide) (by rw[h1];rcases ho with rfl|rfl<;>decide);rw[h1,h2,h3]at q;exact q
theorem aG3(op fi ti:Int)(a b c d e f a' b' c' d' e' f':UInt8)(ho:op=1∨op=2)(hf:0<=fi/\fi<=4294967295)(ht:0<=ti/\ti<=4294967295)(u:fV):
  f_ Vh 37 #[.string (WR (WM.vE op [a,b,c,d,e,f] fi [a',b',c',d',e',f'] ti))] u fun ee w'=>ee=.returned (.tuple #[.agg (rE op a.toNat b.toNat c.toNat d.toNat e.toNat f.toNat fi a'.toNat b'.toNat c'.toNat d'.toNat e'.toNat f'.toNat ti),Vb Vg 0])/\gm u.heap.size u w':=
 QE.Xu _ op _ _ _ _ _ _ fi _ _ _ _ _ _ ti 0 u (fun u=>aG0 op fi ti a b c d e f a' b' c' d' e' f' ho hf ht u)
theorem az5(m:Tf.RH)(s:ByteArray)(hs:s=⟨(Tf.U7 m).toArray⟩)(hk:Tf.UU m=0)(hp:Tf.ZO m)(hb:m.block<65536)(hl:(Tf.U7 m).length<=1048576)(u:fV):
  f_ Vh 71 #[.string s] u fun ee w'=>Vl.IE m.fs.length (Tf.Rf m.fs) u (fun sa sc=>.tuple #[.agg (rG m.op m.block ⟨m.text.toArray⟩ ⟨m.data.toArray⟩ sa m.fs.length sc),Vb Vg 0]) ee w':=by
 have hr:=Tf.aM0 m hk hp hb;refine Vl.Hl s _ _ _ _ _ _ u (fun u2=>Vl.nK s _ _ _ _ m.fs.length (Tf.Rf m.fs) u2 (fun u3 B hB _=> ?_));refine(Tf.aE7 B (Tf.U7 m) u3 (by rw[hs]at hB;exact hB) hl).mono ?_;rintro ee w' ⟨hg,h|⟨_,v,rfl,hown⟩⟩
 ·rw[hr]at h
  exact absurd rfl h.1
 rw[hr]at hown ⊢;obtain⟨sa,sc,rfl⟩:=Tf.ib hown;exact⟨⟨sa,sc,rfl,hown⟩,hg⟩
theorem aG9(m:Tf.RH)(s:ByteArray)(hs:s=⟨(Tf.U7 m).toArray⟩)(hk:Tf.UU m=0)(hp:Tf.ZO m)(hb:m.block<65536)(hl:(Tf.U7 m).length<=1048576)(u:fV):
  f_ Vh 41 #[.string s] u fun ee w'=>Vl.IE m.fs.length (Tf.Rf m.fs) u (fun sa sc=>.tuple #[.agg (rG m.op m.block ⟨m.text.toArray⟩ ⟨m.data.toArray⟩ sa m.fs.length sc),Vb Vg 0]) ee w':=
 Vl.Yq s _ _ _ _ _ _ u (fun u=>az5 m s hs hk hp hb hl u)
end Ho
namespace Ho
open Bs Js
variable{w w':fV} {H:Nat}
theorem ah0(id fr ta:Int)(L:ByteArray)(h:L.size<=1480):(Ip.Db id 9 17 fr ta L).size<=1500:=by
 unfold Ip.Db;rw[aT4 (by decide),aU0 h];show(Ip.Ls _ _ _ _ _ _).toArray.size<=_;rw[aZ9,Ip.Ls,aS9,Ip.jY,jc];omega
theorem Sd{w u u':fV}{b:Nat}(t:PU w u b)(hb:gm u.heap.size u u'):PU w u' b:=⟨hb.os.trans t.os,hb.tape.trans t.tape,hb.output.trans t.output,aT9 t.size hb.size,fun k hk hn=>(hb.block k (aU1 hk t.size)).trans (t.block k hk hn)⟩
theorem Zj{h:Host}(k:At w H h)(c:NA w)(hH0:(0:Nat)≠H)(hH1:(1:Nat)≠H)(f t fr ta:Int)(load:ByteArray)(hF:0<=f/\f<=65535)(hT:0<=t/\t<=65535)(hf:0<=fr/\fr<=4294967295)(ht:0<=ta/\ta<=4294967295)(hl:load.size<=262144):
  f_ Vh 70 #[p_ H,.agg (rI f t load),Vb Vf fr,Vb Vf ta] w fun ee w'=>ee=.returned (.string (h.frame f t load fr ta))/\At w' H h.Ww/\PU w w' H:=by
 have hlt:=gG k;have hB:H≠w.heap.size:=aU4 hlt;have c11:w.cell? (a_ H 11)=some (Vb Ve h.id):=k.cell 11;have f11:=k.free 11;have hid:=QQ (h.id+1);have HU:=fun u=>M0 (Ud.Wj f t fr ta load u hF hT hf ht hl);obtain⟨L,hL⟩:=ex_ (Ud.sH f t fr ta load);have hLz:L.size<=1480:=by rw[hL];exact WI _ _ _ _ _
 rw[<-hL]at HU;obtain⟨i1,hi1⟩:=ex_ (IntKind.u16.wrap (h.id+1));rw[<-hi1]at hid;have HI:=fun u=>M0 (Ip.Wj i1 9 17 fr ta L u hid (by omega) (by omega) hf ht (by omega));obtain⟨M,hM⟩:=ex_ (Ip.Db i1 9 17 fr ta L);have hMz:M.size<=1500:=by rw[hM];exact ah0 _ _ _ _ hLz
 rw[<-hM]at HI;have HE:=fun u=>M0 (og.Wj 2 0 0 0 0 42 2 0 0 0 0 7 2048 M u (by decide) (by decide) (by omega));have HFR:Hid (h.frame f t load fr ta=og.ni [2,0,0,0,0,42,2,0,0,0,0,7] 2048 M):=M0 (by rw[hM,hi1,hL];rfl);obtain⟨X,hX⟩:=ex_ ((w.setCell (a_ H 11) (Vb Ve i1)).alloc (.cells (rI f t load) 69));have HX:Hid (At X H h.Ww/\NA X/\PU w X H/\X.heap[w.heap.size]?=some (.cells (rI f t load) 69 (0,0))):=M0 (by
  have ks:At (w.setCell (a_ H 11) (Vb Ve i1)) H h.Ww:=k.set 11 _ (by rw[hi1];rfl)
  have hz:(w.setCell (a_ H 11) (Vb Ve i1)).heap.size=w.heap.size:=by simp[World.setCell]
  have hs:∀j,j<w.heap.size->j≠H->X.heap[j]?=w.heap[j]?:=fun j hj hn=>by rw[hX,aT1 _ _ _ (by rw[hz];exact hj)];exact aS7 _ _ _ _ hn
  refine⟨by rw[hX];exact ks.below b1_,c.of (hs _ c.lt.1 hH0) (hs _ c.lt.2 hH1),⟨by rw[hX];rfl,by rw[hX];rfl,by rw[hX];rfl,by rw[hX];simp[World.setCell],hs⟩,?_⟩
  have q:=aS6 (w.setCell (a_ H 11) (Vb Ve i1)) (.cells (rI f t load) 69)
  rw[hz]at q
  rw[hX];exact q)
 have HIE:Hid (i1=h.Ww.id):=M0 hi1;clear k c hL hM;go_enter func70,ntmps70;go_wp2_with fail;rw[<-hi1,<-hX];clear hX c11 f11 hi1;refine on_ (gB (HU _)) fun u1 hb1=>?_;have H1:Hid (At u1 H h.Ww/\NA u1/\PU w u1 H):=M0 ⟨HX.1.below hb1,HX.2.1.below hb1,Sd HX.2.2.1 hb1⟩;have d11:u1.cell? (a_ H 11)=some (Vb Ve i1):=by rw[H1.1.cell 11,gB HIE];rfl
 clear hb1 HX HU;go_wp2_with fail;refine on_ (gB (HI _)) fun u2 hb2=>?_;have H2:Hid (At u2 H h.Ww/\NA u2/\PU w u2 H):=M0 ⟨H1.1.below hb2,H1.2.1.below hb2,Sd H1.2.2 hb2⟩;obtain⟨g0,g1,g2,g3,g4,g5,g6,g7,g8,g9,g10,g11⟩:=H2.2.1;clear hb2 H1 HI d11;go_wp2_with fail;refine on_ (gB (HE _)) fun u3 hb3=>?_;have H3:Hid (At u3 H h.Ww/\PU w u3 H):=M0 ⟨H2.1.below hb3,Sd H2.2.2 hb3⟩;clear hb3 H2 HE g0 g1 g2 g3 g4 g5 g6 g7 g8 g9 g10 g11;go_wp2;go_ret;rw[gB HFR];exact⟨rfl,H3.1,H3.2⟩
end Ho
namespace Ho
open Bs Js
variable{w0 w w':fV} {Q B H G:Nat} {m m':Mc} {h h':Host}
theorem ap5{P:Nat->Prop}(k:Mx w0 P w B m){g:Nat}{a:Array Value}{t:TypeId}{z:Nat×Nat}(hk:w.heap[g]?=some (.cells a t z))(h1:t≠115)(h2:t≠9)(h3:t≠5): ¬iq B m g:=by
 intro hf
 rcases hf with rfl|rfl|rfl|rfl|hk'
 ·have e:=k.row
  rw[hk]at e;simp only[aV7,aW2]at e;exact h1 e.2.1
 ·obtain⟨es,c,e,_⟩:=k.map
  rw[hk]at e;simp at e
 ·obtain⟨_,_,_,_,arr,e,_⟩:=k.came
  rw[hk]at e;simp only[aV7,aW2]at e;exact h2 e.2.1
 ·obtain⟨_,_,_,_,arr,e,_⟩:=k.goes
  rw[hk]at e;simp only[aV7,aW2]at e;exact h2 e.2.1
 rcases k.image.2 with⟨e,_⟩|⟨g',cap,cur,e1,e2,e3,e4⟩
 ·rw[e]at hk';cases hk'
 rw[e1]at hk';have:g'=g:=aU2 hk';subst this;rw[hk]at e3;simp only[aV7,aW2]at e3;exact h3 e3.2.1
def XB(w:fV)(G:Nat):Prop:=∃n lo a b c d e f x y:Int,w.heap[G]?=some (.cells (rH none 0 0 n lo a b c d e f x y) 81 (0,0))
theorem XB.some(k:XB w G):∃a,w.heap[G]?=some (.cells a 81 (0,0)):=by
 obtain⟨n,lo,a,b,c,d,e,f,x,y,k⟩:=k;exact⟨_,k⟩
theorem XB.of(k:XB w G)(e:w'.heap[G]?=w.heap[G]?):XB w' G:=by
 obtain⟨n,lo,a,b,c,d,e',f,x,y,k⟩:=k;exact⟨n,lo,a,b,c,d,e',f,x,y,e.trans k⟩
structure All (w0 w:fV) (Q B H G:Nat) (m:Mc) (h:Host):Prop where
 bx:Bx w (iq B m) w Q B m
 ho:At w H h
 lu:XB w G
 bl:gm w0.heap.size w0 w
 ng:4<=w0.heap.size
 uq:w0.heap.size<=Q
 uh:w0.heap.size<=H
 ug:w0.heap.size<=G
 uf:∀k,iq B m k->w0.heap.size<=k
theorem All.nh(k:All w0 w Q B H G m h): ¬iq B m H:=ap5 k.bx.mx k.ho (by decide) (by decide) (by decide)
theorem All.ngf(k:All w0 w Q B H G m h): ¬iq B m G:=by
 obtain⟨a,e⟩:=k.lu.some;exact ap5 k.bx.mx e (by decide) (by decide) (by decide)
theorem All.hg(k:All w0 w Q B H G m h):H≠G:=by
 rintro rfl;obtain⟨a,e⟩:=k.lu.some;have:=k.ho;unfold At at this;rw[e]at this;simp only[aV7,aW2]at this;exact absurd this.2.1 (by decide)
theorem All.hq(k:All w0 w Q B H G m h):H≠Q:=by
 rintro rfl;have:=k.ho;unfold At at this;rw[k.bx.row]at this;simp only[aV7,aW2]at this;exact absurd this.2.1 (by decide)
theorem All.gq(k:All w0 w Q B H G m h):G≠Q:=by
 rintro rfl;obtain⟨a,e⟩:=k.lu.some;rw[k.bx.row]at e;simp only[aV7,aW2]at e;exact absurd e.2.1 (by decide)
theorem All.af6(k:All w0 w Q B H G m h)(j:Bx w (iq B m) w' Q B m'):All w0 w' Q B H G m' h where
 bx:=j.base
 ho:=(j.mx.kept H (gG k.ho) k.nh).trans k.ho
 lu:=k.lu.of (j.mx.kept G (by obtain⟨a,e⟩:=k.lu.some;exact gG e) k.ngf)
 bl:=⟨j.mx.os.trans k.bl.os,j.mx.tape.trans k.bl.tape,j.mx.output.trans k.bl.output,aT9 k.bl.size j.mx.size,fun i hi=>(j.mx.kept i (aU1 hi k.bl.size) (fun hf=>by have:=k.uf i hf;omega)).trans (k.bl.block i hi)⟩
 ng:=k.ng
 uq:=k.uq
 uh:=k.uh
 ug:=k.ug
 uf:=fun i hi=>by
  rcases j.mx.own i hi with a|a
  ·exact k.uf i a
  exact aT9 k.bl.size a
theorem moved{P:Nat->Prop}(k:Mx w0 P w B m){b:Nat}(t:PU w w' b)(hb: ¬iq B m b)(hn:4<=b):Mx w' (iq B m) w' B m:=by
 have e:∀j,iq B m j->w'.heap[j]?=w.heap[j]?:=fun j hj=>t.block j (k.ik hj) (fun e=>hb (e▸hj));refine⟨rfl,rfl,rfl,aS5 _,fun _ _ _=>rfl,fun _ h=>aT2 h,⟨aT9 k.low.1 (aT9 k.size t.size),fun j hj=>k.tL hj⟩,fun j hj=> ?_,(e B (aT2 rfl)).trans k.row,oP k.map (e _ (aT7 (aT2 rfl))),k.came.other (e _ (aT7 (aT7 (aT2 rfl)))),k.goes.other (e _ (aT7 (aT7 (aT7 (aT2 rfl))))),k.apart,iN k.image (fun j hj=>e j (aT7 (aT7 (aT7 (aT7 hj)))))⟩;have q:=k.base.gl j hj;have h1:(2:Nat)<w.heap.size:=aU1 (by decide:2<4) (aT9 k.low.1 k.size);have h2:(2:Nat)≠b:=fun e=>absurd (e▸hn) (by decide);simp only[World.cell?]at q ⊢;rw[t.block _ h1 h2];exact q
theorem All.turned(k:All w0 w Q B H G m h){b:Nat}(t:PU w w' b)(hb: ¬iq B m b)(hq:b≠Q)(hu:w0.heap.size<=b)(hh:At w' H h')(hl:XB w' G):All w0 w' Q B H G m h' where
 bx:=⟨moved k.bx.mx t hb (aT9 k.ng hu),(t.block Q k.bx.lt (fun e=>hq e.symm)).trans k.bx.row⟩
 ho:=hh
 lu:=hl
 bl:=⟨t.os.trans k.bl.os,t.tape.trans k.bl.tape,t.output.trans k.bl.output,aT9 k.bl.size t.size,fun i hi=>(t.block i (aU1 hi k.bl.size) (fun e=>by omega)).trans (k.bl.block i hi)⟩
 ng:=k.ng
 uq:=k.uq
 uh:=k.uh
 ug:=k.ug
 uf:=k.uf
theorem All.host(k:All w0 w Q B H G m h)(t:PU w w' H)(hh:At w' H h'):All w0 w' Q B H G m h':=
 k.turned t k.nh k.hq k.uh hh (k.lu.of (t.block G (by obtain⟨a,e⟩:=k.lu.some;exact gG e) (fun e=>k.hg e.symm)))
theorem All.au8(k:All w0 w Q B H G m h)(t:PU w w' G)(hl:XB w' G):All w0 w' Q B H G m h:=
 k.turned t k.ngf k.gq k.ug ((t.block H (gG k.ho) k.hg).trans k.ho) hl
theorem All.below(k:All w0 w Q B H G m h)(hb:gm w.heap.size w w'):All w0 w' Q B H G m h:=
 ⟨(k.bx.below hb).base,k.ho.below hb,k.lu.of (hb.block G (by obtain⟨a,e⟩:=k.lu.some;exact gG e)),k.bl.trans (hb.mono k.bl.size),k.ng,k.uq,k.uh,k.ug,k.uf⟩
def Wm(w:fV)(B:Nat)(m:Mc)(v:Value)(l:List ByteArray):Prop:=(∃b,w.ownsRow b 9 1 v l.length (strs l))/\∀j,v.ownBlock=some j-> ¬iq B m j
variable{v:Value} {l:List ByteArray}
theorem av2{b n:Nat}{xs:List Value}(o:w.ownsRow b 9 1 v n xs){j:Nat}(hj:v.ownBlock=some j):∃cur,w.heap[j]?=some (.cells cur 9 (0,0)):=by
 rcases o.2 with⟨h1,_⟩|⟨g,cap,cur,e1,e2,e3,e4⟩
 ·rw[h1]at hj;cases hj
 rw[e1]at hj;have:g=j:=aU2 hj;subst this;exact⟨cur,e3⟩
theorem Wm.af6(r:Wm w B m v l)(j:Bx w (iq B m) w' Q B m'):Wm w' B m' v l:=by
 obtain⟨⟨b,o⟩,n⟩:=r;refine⟨⟨b,iN o (fun i hi=>j.mx.kept i (o.lt i hi).2 (n i hi))⟩,fun i hi hf=> ?_⟩
 rcases j.mx.own i hf with a|a
 ·exact n i hi a
 have:=(o.lt i hi).2;omega
theorem Wm.turned(r:Wm w B m v l){b:Nat}(t:PU w w' b){a:Array Value}{ty:TypeId}{z:Nat×Nat}(hk:w.heap[b]?=some (.cells a ty z))(ht:ty≠9):Wm w' B m v l:=by
 obtain⟨⟨c,o⟩,n⟩:=r;refine⟨⟨c,iN o (fun i hi=>t.block i (o.lt i hi).2 (fun e=> ?_))⟩,n⟩;subst e;obtain⟨cur,e⟩:=av2 o hi;rw[hk]at e;simp only[aV7,aW2]at e;exact ht e.2.1
theorem Wm.au8(r:Wm w B m v l)(k:All w0 w Q B H G m h)(t:PU w w' G):Wm w' B m v l:=by
 obtain⟨a,e⟩:=k.lu.some;exact r.turned t e (by decide)
theorem Wm.new{P:Nat->Prop}(k:Mx w0 P w B m)(o:w'.ownsRow w.heap.size 9 1 v l.length (strs l)):Wm w' B m v l:=
 ⟨⟨_,o⟩,fun j hj hf=>by have h1:=k.ik hf;have h2:=(o.lt j hj).1;omega⟩
theorem Wm.cell(r:Wm w B m v l){ao:Option Addr}{n cp:Nat}(e:v=.slice ao n cp){i:Nat}(hi:i<l.length):∃g,ao=some (a_ g 0)/\w.cell? (a_ g i)=some (.string l[i]):=by
 obtain⟨⟨b,ho,o⟩,_⟩:=r;subst e
 rcases o with⟨_,o⟩|⟨g,cap,cur,e1,e2,e3,e4,e5,e6,e7⟩
 ·omega
 injection e1 with e1 _ _
 refine⟨g,e1,?_⟩;rw[aS3 _ _ i _ _ _ e3];have q:=bg2 (fun z=>z[i]?) e7;simp only[bi3,bg5,hi,be9,Js.strs,be6,aV4 hi,Option.map_some]at q;rw[ba0]at q;exact q
end Ho
end Go.Proofs.YtdgacidndknceaaGreatDoor
