import Derived.Test.YtdgacidndknceaaGreatDoorMg15
import Derived.Test.YtdgacidndknceaaGreatDoorMg19
import Derived.Test.YtdgacidndknceaaGreatDoorMg20
set_option linter.all false
set_option maxHeartbeats 1000000
set_option maxRecDepth 10000
open Go.ChangeShapes Go.WideShapes Go.ChangeAt Go.RowKit
open Go renaming World → fV, Calls → f_
open Go.RowKit renaming Below → gm
open Go.Proofs.Tryz renaming prog → Vh
open Go.Value renaming int → Vb
open Go.IntKind renaming u8 → Vd, u16 → Ve, u32 → Vf, i64 → Vg
open Go.Proofs.Tryz
namespace Go.Proofs.YtdgacidndknceaaGreatDoor
namespace Ho
open Bs Js
variable{w w':fV} {H:Nat}
structure Host where
 image:ByteArray
 gK:Int
 next:Int
 opts:Bool
 port:Int
 block:Int
 window:Int
 sent:Int
 last:Int
 whn:Int
 now:Int
 id:Int
def Host.cells(h:Host):Array Value:=#[.string h.image,Vb Vf h.gK,Vb Vf h.next,.bool h.opts,Vb Ve h.port,Vb Vg h.block,Vb Vg h.window,Vb Vg h.sent,Vb Vg h.last,Vb Vg h.whn,Vb Vg h.now,Vb Ve h.id]
def At(w:fV)(H:Nat)(h:Host):Prop:=w.heap[H]?=some (.cells h.cells 39 (0,0))
theorem At.cell{h:Host}(k:At w H h)(j:Nat):w.cell? (a_ H j)=h.cells[j]?:=dh w _ j _ _ _ k
theorem At.free{h:Host}(k:At w H h)(j:Nat):w.frozen? (a_ H j)=false:=by unfold At at k;simp[World.frozen?,k]
theorem At.below{h:Host}(k:At w H h)(hb:gm w.heap.size w w'):At w' H h:=(hb.block H (gG k)).trans k
theorem At.set{h h':Host}(k:At w H h)(j:Nat)(v:Value)(e:h.cells.setIfInBounds j v=h'.cells):At (w.setCell (a_ H j) v) H h':=by
 unfold At;rw[<-e];exact gI w j v k
def NA(w:fV):Prop:=w.cell? (a_ 0 0)=some (Vb Vd 2)/\w.cell? (a_ 0 1)=some (Vb Vd 0)/\w.cell? (a_ 0 2)=some (Vb Vd 0)/\w.cell? (a_ 0 3)=some (Vb Vd 0)/\w.cell? (a_ 0 4)=some (Vb Vd 0)/\w.cell? (a_ 0 5)=some (Vb Vd 42)/\w.cell? (a_ 1 0)=some (Vb Vd 2)/\w.cell? (a_ 1 1)=some (Vb Vd 0)/\w.cell? (a_ 1 2)=some (Vb Vd 0)/\w.cell? (a_ 1 3)=some (Vb Vd 0)/\w.cell? (a_ 1 4)=some (Vb Vd 0)/\w.cell? (a_ 1 5)=some (Vb Vd 7)
def Host.Ww(h:Host):Host:={h with id:=IntKind.u16.wrap (h.id+1)}
def Host.frame(h:Host)(f t:Int)(load:ByteArray)(fr ta:Int):ByteArray:=og.ni [2,0,0,0,0,42,2,0,0,0,0,7] 2048 (Ip.Db h.Ww.id 9 17 fr ta (Ud.sH f t fr ta load))
theorem NA.of(c:NA w)(e0:w'.heap[(0:Nat)]?=w.heap[(0:Nat)]?)(e1:w'.heap[(1:Nat)]?=w.heap[(1:Nat)]?):NA w':=by
 unfold NA at c ⊢
 simp only[World.cell?]at c ⊢
 rw[e0,e1];exact c
theorem NA.lt(c:NA w):0<w.heap.size/\1<w.heap.size:=by
 obtain⟨a,_,_,_,_,_,b,_⟩:=c
 constructor
 ·cases e:w.heap[(0:Nat)]? with
  |none=>simp[World.cell?,e]at a
  |some o=>exact gG e
 ·cases e:w.heap[(1:Nat)]? with
  |none=>simp[World.cell?,e]at b
  |some o=>exact gG e
theorem NA.below(c:NA w)(hb:gm w.heap.size w w'):NA w':=c.of (hb.block _ c.lt.1) (hb.block _ c.lt.2)
end Ho
namespace Ho
open Bs Rd
theorem strSize(a:List UInt8):(⟨a.toArray⟩:ByteArray).size=a.length:=by simp[ByteArray.size]
def WR(L:ByteArray):ByteArray:=⟨(L.data.toList++List.replicate (46-L.size) 0).toArray⟩
theorem Z9(L:ByteArray):(WR L).data.toList=L.data.toList++List.replicate (46-L.size) 0:=rfl
theorem Z_(L:ByteArray):(WR L).size=L.size+(46-L.size):=by
 unfold WR
 rw[strSize,ak,bJ,jc]
theorem ah7(a b c d e f a' b' c' d' e' f':UInt8)(ty:Int)(L:ByteArray)(h0:1536<=ty)(hl:L.size<=1500):(og.ni [a,b,c,d,e,f,a',b',c',d',e',f'] ty L).data.toList=a::b::c::d::e::f::a'::b'::c'::d'::e'::f'::gJ (ty/256)::gJ ty::(WR L).data.toList:=by
 have k1:og.X6 ty=true:=by unfold og.X6;simpa using h0
 have k2:og.ko L=true:=by unfold og.ko;simpa using hl
 have hls:=jc L
 unfold og.ni
 rw[k1,k2,Z9]
 show og.Ee _ ty L=_
 unfold og.Ee
 have e:60-([a,b,c,d,e,f,a',b',c',d',e',f']++iy ty++L.data.toList).length=46-L.size:=by
  simp only[ak,hls,iy,aj,aP];omega
 rw[e]
 simp[iy]
theorem Xj(a b c d e f a' b' c' d' e' f':UInt8)(ty:Int)(L:ByteArray)(h0:1536<=ty)(hl:L.size<=1500):60<=(og.ni [a,b,c,d,e,f,a',b',c',d',e',f'] ty L).size/\(og.ni [a,b,c,d,e,f,a',b',c',d',e',f'] ty L).size<=1560:=by
 have h:=jc (og.ni [a,b,c,d,e,f,a',b',c',d',e',f'] ty L)
 rw[ah7 a b c d e f a' b' c' d' e' f' ty L h0 hl]at h
 have hp:=jc (WR L)
 have hq:=Z_ L
 simp only[aj]at h
 omega
theorem Y5(a b c d e f a' b' c' d' e' f':UInt8)(ty:Int)(L:ByteArray)(h0:1536<=ty)(h1:ty<=65535)(hl:L.size<=1500)(u:fV):
  f_ Vh 33 #[.string (og.ni [a,b,c,d,e,f,a',b',c',d',e',f'] ty L)] u fun ee w'=>ee=.returned (.tuple #[.agg (rF a.toNat b.toNat c.toNat d.toNat e.toNat f.toNat a'.toNat b'.toNat c'.toNat d'.toNat e'.toNat f'.toNat ty (WR L)),Vb Vg 0])/\gm u.heap.size u w':=by
 have hL:=ah7 a b c d e f a' b' c' d' e' f' ty L h0 hl
 obtain⟨s,hs⟩:∃s,s=og.ni [a,b,c,d,e,f,a',b',c',d',e',f'] ty L:=⟨_,rfl⟩
 rw[<-hs]at hL ⊢
 clear hs
 have hz:=Z_ L
 have hp:=jc (WR L)
 have ht:256*((gJ (ty/256)).toNat:Int)+((gJ ty).toNat:Int)=ty:=by rw[lh,lh];omega
 refine gP.iU s _ _ _ _ _ _ _ _ _ _ _ _ ty (WR L) 0 u (fun u=>gP.nK s _ _ _ _ _ _ _ _ _ _ _ _ ty (WR L) u (fun u B h=> ?_))
 rw[hL]at h
 have q:=gP.Ad B a b c d e f a' b' c' d' e' f' (gJ (ty/256)) (gJ ty) (WR L).data.toList u h (by rw[hp];omega) (by rw[ht];unfold og.X6;simpa using h0) (by rw[mQ];unfold og.ko;simp only[cZ];omega)
 rw[ht,mQ]at q
 exact q
theorem Y4(a b c d e f a' b' c' d' e' f':UInt8)(ty:Int)(L:ByteArray)(h0:1536<=ty)(h1:ty<=65535)(hl:L.size<=1500)(u:fV):
  f_ Vh 19 #[.string (og.ni [a,b,c,d,e,f,a',b',c',d',e',f'] ty L)] u fun ee w'=>ee=.returned (.tuple #[.agg (rF a.toNat b.toNat c.toNat d.toNat e.toNat f.toNat a'.toNat b'.toNat c'.toNat d'.toNat e'.toNat f'.toNat ty (WR L)),Vb Vg 0])/\gm u.heap.size u w':=
 gP.Xu _ _ _ _ _ _ _ _ _ _ _ _ _ ty (WR L) 0 u (fun u=>Y5 a b c d e f a' b' c' d' e' f' ty L h0 h1 hl u)
theorem Zg(id ttl pr fr ta:Int)(load:ByteArray)(ht:0<ttl)(hl:load.size<=1480):Ip.Db id ttl pr fr ta load=⟨(Ip.Ls id ttl pr fr ta load).toArray⟩:=by
 unfold Ip.Db
 rw[ax (by omega),ay hl]
theorem aK8(id ttl pr fr ta:Int)(load:ByteArray)(hi:0<=id/\id<=65535)(ht:0<ttl/\ttl<=255)(hp:0<=pr/\pr<=255)(hf:0<=fr/\fr<=4294967295)(ho:0<=ta/\ta<=4294967295)(hl:load.size<=1480)(u:fV):
  f_ Vh 34 #[.string (WR (Ip.Db id ttl pr fr ta load))] u fun e w'=>e=.returned (.tuple #[.agg (rI id ttl pr fr ta load),Vb Vg 0])/\gm u.heap.size u w':=by
 rw[Zg id ttl pr fr ta load ht.1 hl]
 obtain⟨m,hm⟩:∃m:List UInt8,m=List.replicate (46-(⟨(Ip.Ls id ttl pr fr ta load).toArray⟩:ByteArray).size) 0:=⟨_,rfl⟩
 have hm46:m.length<=46:=by rw[hm,bJ];omega
 have e:WR ⟨(Ip.Ls id ttl pr fr ta load).toArray⟩=⟨(Ip.Ls id ttl pr fr ta load++m).toArray⟩:=by unfold WR;rw[<-hm]
 rw[e]
 clear e hm
 have k:=Sp.aA1 id ttl pr fr ta load m ht hl
 have q:=Uy.zX ⟨(Ip.Ls id ttl pr fr ta load++m).toArray⟩ (Ip.Ls id ttl pr fr ta load++m) rfl u (by rw[strSize,Sp.aq1];omega)
 rw[Lt.pX k,Lt.pX k,Lt.pX k,Lt.pX k,Lt.pX k,Lt.I_ k,k,Sp.aJ9 _ _ _ _ _ _ _ hi,Sp.aD2 _ _ _ _ _ _ _ ⟨by omega,ht.2⟩,Sp.aH0 _ _ _ _ _ _ _ hp,Sp.aH8 _ _ _ _ _ _ _ hf,Sp.aG7 _ _ _ _ _ _ _ ho,Sp.aK7 _ _ _ _ _ _ _ hl,show(⟨load.data.toList.toArray⟩:ByteArray)=load from mQ load]at q
 exact q
theorem aN8(id ttl pr fr ta:Int)(load:ByteArray)(hi:0<=id/\id<=65535)(ht:0<ttl/\ttl<=255)(hp:0<=pr/\pr<=255)(hf:0<=fr/\fr<=4294967295)(ho:0<=ta/\ta<=4294967295)(hl:load.size<=1480)(u:fV):
  f_ Vh 20 #[.string (WR (Ip.Db id ttl pr fr ta load))] u fun e w'=>e=.returned (.tuple #[.agg (rI id ttl pr fr ta load),Vb Vg 0])/\gm u.heap.size u w':=
 Uw.Xu _ id ttl pr fr ta load 0 u (fun u=>aK8 id ttl pr fr ta load hi ht hp hf ho hl u)
theorem ax1(f t fr ta:Int)(load:ByteArray)(hF:0<=f/\f<=65535)(hT:0<=t/\t<=65535)(hf:0<=fr/\fr<=4294967295)(ho:0<=ta/\ta<=4294967295)(hl:load.size<=1472)(u:fV):
  f_ Vh 43 (rO (Ud.sH f t fr ta load) fr ta) u fun e w'=>e=.returned (.tuple #[.agg (rU f t load),Vb Vg 0])/\gm u.heap.size u w':=by
 unfold Ud.sH
 rw[ay hl]
 have k:=Sp.aC1 f t fr ta load [] hl
 have q:=Uv.zX ⟨(Ud.uG f t fr ta load++ []).toArray⟩ (Ud.uG f t fr ta load++ []) rfl fr ta u (by rw[strSize,Sp.aq0,aP];omega) hf ho
 rw[Ut.sS k,Ut.sS k,Ut.JD k,k,Sp.aM5 _ _ _ _ _ _ hF,Sp.aM4 _ _ _ _ _ _ hT,Sp.aI2 _ _ _ _ _ _ hl,show(⟨load.data.toList.toArray⟩:ByteArray)=load from mQ load,bn]at q
 exact q
theorem aG1(f t fr ta:Int)(load:ByteArray)(hF:0<=f/\f<=65535)(hT:0<=t/\t<=65535)(hf:0<=fr/\fr<=4294967295)(ho:0<=ta/\ta<=4294967295)(hl:load.size<=1472)(u:fV):
  f_ Vh 24 (rO (Ud.sH f t fr ta load) fr ta) u fun e w'=>e=.returned (.tuple #[.agg (rU f t load),Vb Vg 0])/\gm u.heap.size u w':=
 UI.Xu _ f t load 0 fr ta u (fun u=>ax1 f t fr ta load hF hT hf ho hl u)
theorem aG0(op fi ti:Int)(a b c d e f a' b' c' d' e' f':UInt8)(ho:op=1∨op=2)(hf:0<=fi/\fi<=4294967295)(ht:0<=ti/\ti<=4294967295)(u:fV):
  f_ Vh 63 #[.string (WR (WM.vE op [a,b,c,d,e,f] fi [a',b',c',d',e',f'] ti))] u fun ee w'=>ee=.returned (.tuple #[.agg (rE op a.toNat b.toNat c.toNat d.toNat e.toNat f.toNat fi a'.toNat b'.toNat c'.toNat d'.toNat e'.toNat f'.toNat ti),Vb Vg 0])/\gm u.heap.size u w':=by
 have hk:WM.Dp op=true:=by rcases ho with rfl|rfl<;>decide
 have hL:(WR (WM.vE op [a,b,c,d,e,f] fi [a',b',c',d',e',f'] ti)).data.toList=0::1::8::0::6::4::gJ (op/256)::gJ op::a::b::c::d::e::f::gJ (fi/65536/256)::gJ (fi/65536)::gJ (fi%65536/256)::gJ (fi%65536)::a'::b'::c'::d'::e'::f'::gJ (ti/65536/256)::gJ (ti/65536)::gJ (ti%65536/256)::gJ (ti%65536)::List.replicate 18 0:=by
  rw[Z9]
  unfold WM.vE
  rw[hk]
  rfl
 have h1:256*((gJ (op/256)).toNat:Int)+((gJ op).toNat:Int)=op:=by rw[lh,lh];omega
 have h2:16777216*((gJ (fi/65536/256)).toNat:Int)+65536*((gJ (fi/65536)).toNat:Int)+256*((gJ (fi%65536/256)).toNat:Int)+((gJ (fi%65536)).toNat:Int)=fi:=by rw[lh,lh,lh,lh];omega
 have h3:16777216*((gJ (ti/65536/256)).toNat:Int)+65536*((gJ (ti/65536)).toNat:Int)+256*((gJ (ti%65536/256)).toNat:Int)+((gJ (ti%65536)).toNat:Int)=ti:=by rw[lh,lh,lh,lh];omega
 obtain⟨S,hS⟩:∃S:ByteArray,S=WR (WM.vE op [a,b,c,d,e,f] fi [a',b',c',d',e',f'] ti):=⟨_,rfl⟩
 rw[<-hS]at hL ⊢
 clear hS
 refine QE.iU S op _ _ _ _ _ _ fi _ _ _ _ _ _ ti 0 u (fun u=>QE.nK S op _ _ _ _ _ _ fi _ _ _ _ _ _ ti u (fun u B h=> ?_))
 rw[hL]at h
 have q:=QE.Ih B 0 1 8 0 6 4 (gJ (op/256)) (gJ op) a b c d e f (gJ (fi/65536/256)) (gJ (fi/65536)) (gJ (fi%65536/256)) (gJ (fi%65536)) a' b' c' d' e' f' (gJ (ti/65536/256)) (gJ (ti/65536)) (gJ (ti%65536/256)) (gJ (ti%65536)) (List.replicate 18 0) u h (by simp only[aj,bJ,maxLen];omega) (by decide) (by rw[h1];rcases ho with rfl|rfl<;>decide)
 rw[h1,h2,h3]at q
 exact q
theorem aG3(op fi ti:Int)(a b c d e f a' b' c' d' e' f':UInt8)(ho:op=1∨op=2)(hf:0<=fi/\fi<=4294967295)(ht:0<=ti/\ti<=4294967295)(u:fV):
  f_ Vh 37 #[.string (WR (WM.vE op [a,b,c,d,e,f] fi [a',b',c',d',e',f'] ti))] u fun ee w'=>ee=.returned (.tuple #[.agg (rE op a.toNat b.toNat c.toNat d.toNat e.toNat f.toNat fi a'.toNat b'.toNat c'.toNat d'.toNat e'.toNat f'.toNat ti),Vb Vg 0])/\gm u.heap.size u w':=
 QE.Xu _ op _ _ _ _ _ _ fi _ _ _ _ _ _ ti 0 u (fun u=>aG0 op fi ti a b c d e f a' b' c' d' e' f' ho hf ht u)
theorem az5(m:Tf.RH)(s:ByteArray)(hs:s=⟨(Tf.U7 m).toArray⟩)(hk:Tf.UU m=0)(hp:Tf.ZO m)(hb:m.block<65536)(hl:(Tf.U7 m).length<=1048576)(u:fV):
  f_ Vh 71 #[.string s] u fun ee w'=>TfR.IE m.fs.length (Tf.Rf m.fs) u (fun sa sc=>.tuple #[.agg (rM m.op m.block ⟨m.text.toArray⟩ ⟨m.data.toArray⟩ sa m.fs.length sc),Vb Vg 0]) ee w':=by
 have hr:=Tf.aM0 m hk hp hb
 refine TfR.Hl s _ _ _ _ _ _ u (fun u2=>TfR.nK s _ _ _ _ m.fs.length (Tf.Rf m.fs) u2 (fun u3 B hB _=> ?_))
 refine(Tf.aE7 B (Tf.U7 m) u3 (by rw[hs]at hB;exact hB) hl).mono ?_
 rintro ee w' ⟨hg,h|⟨_,v,rfl,hown⟩⟩
 ·rw[hr]at h
  exact absurd rfl h.1
 ·rw[hr]at hown ⊢
  obtain⟨sa,sc,rfl⟩:=Tf.ib hown
  exact⟨⟨sa,sc,rfl,hown⟩,hg⟩
theorem aG9(m:Tf.RH)(s:ByteArray)(hs:s=⟨(Tf.U7 m).toArray⟩)(hk:Tf.UU m=0)(hp:Tf.ZO m)(hb:m.block<65536)(hl:(Tf.U7 m).length<=1048576)(u:fV):
  f_ Vh 41 #[.string s] u fun ee w'=>TfR.IE m.fs.length (Tf.Rf m.fs) u (fun sa sc=>.tuple #[.agg (rM m.op m.block ⟨m.text.toArray⟩ ⟨m.data.toArray⟩ sa m.fs.length sc),Vb Vg 0]) ee w':=
 TfR.Yq s _ _ _ _ _ _ u (fun u=>az5 m s hs hk hp hb hl u)
end Ho
namespace Ho
open Bs Js
theorem an6(L:List UInt8)(k:Nat)(x:Int)(hx:0<=x/\x<256):(gY L).set k (Vb Vd x)=gY (L.set k (UInt8.ofNat x.toNat)):=by
 unfold gY
 rw[List.map_set]
 congr 2
 have:((UInt8.ofNat x.toNat).toNat:Int)=x:=by simp;omega
 exact this.symm
theorem al8(n:Nat)(hn:n<=1000000)(seed:Int)(hs:0<=seed/\seed<=100)(w:fV):
  f_ Vh 7 #[Vb Vg n,Vb Vg seed] w fun e w'=>∃l:List UInt8,l.length=n/\e=.returned (.string ⟨l.toArray⟩)/\gm w.heap.size w w':=by
 obtain⟨i0,hi,hz0,hz1,hz2⟩:=Vx tu
 obtain⟨M,hM⟩:∃M,M=madeCells #[Vb Vd 0] n:=⟨_,rfl⟩
 have hMl:M.toList=gY (List.replicate n 0):=by
  rw[hM,VW]
  unfold gY
  rw[List.map_replicate];rfl
 have hmk:∀u:fV,(Instr.makeSlice 73 (Vb Vg (n:Int)) (Vb Vg (n:Int))).run Vh u=.ok (.slice (some (a_ u.heap.size 0)) n n) (u.alloc (.cells M 5)):=fun u=>by
  have h:=run_make (P:=Vh) u 73 5 i0 (Vb Vd 0) eP hi hz0 .i64 .i64 (n:Int) (n:Int) (by omega) (Int.le_refl _) (by rw[hz2];omega) (by omega)
  rw[hM]
  simpa[hz1,Value.cells]using h
 have HS:Hid (∃L:List UInt8,L.length=n/\gm w.heap.size w (w.alloc (.cells M 5))/\(w.alloc (.cells M 5)).heap[w.heap.size]?=some (.cells (gY L).toArray 5 (0,0))):=M0 ⟨List.replicate n 0,by simp,(R9 _ _).alloc (ai _) _,by rw[<-hMl];exact G8 w _⟩
 clear hM hMl
 go_enter func7,ntmps7
 go_wp2
 go_loopw [11] (fun i wr=>∃k:Nat,k<=n/\i=Vb Vg k/\Hid (∃L:List UInt8,L.length=n/\gm w.heap.size w wr/\wr.heap[w.heap.size]?=some (.cells (gY L).toArray 5 (0,0)))) (fun i _=>n-(intOf i).toNat)
 case atStart=>exact⟨0,aN _,rfl,HS⟩
 case round=>
  obtain⟨k,hk,rfl,HL⟩:=hrel
  rename fV=>wr
  clear HS
  by_cases hlt:k<n
  ·have hki:(k:Int)<(n:Int):=by omega
   obtain⟨L,hL,hb,hr⟩:=gB HL
   have hr':=hr
   have hkk:(k:Int)*(k:Int)<=1000000*1000000:=Int.mul_le_mul (by omega) (by omega) (by omega) (by omega)
   have hkk0:0<=(k:Int)*(k:Int):=Int.mul_nonneg (by omega) (by omega)
   have hsk:seed*((k:Int)+3)<=100*1000003:=Int.mul_le_mul (by omega) (by omega) (by omega) (by omega)
   have hsk0:0<=seed*((k:Int)+3):=Int.mul_nonneg (by omega) (by omega)
   have hc:∃z:Value,wr.cell? (a_ w.heap.size k)=some z:=⟨Vb Vd (L[k]'(by omega)).toNat,by
    rw[dh _ _ k _ _ _ hr]
    simp[gY,fe (show k<L.length by omega)]⟩
   obtain⟨z,hc⟩:=hc
   have hf:wr.frozen? (a_ w.heap.size k)=false:=by simp[World.frozen?,hr]
   have HR:=M0 (show L.length=n/\gm w.heap.size w wr/\wr.heap[w.heap.size]?=some (.cells (gY L).toArray 5 (0,0))from⟨hL,hb,hr⟩)
   clear hL hb hr hr' HL
   go_wp2
   obtain⟨X,hX⟩:∃X:Int,X=(seed*((k:Int)+3)+(k:Int)*(k:Int)/7+(k:Int)/251)%256:=⟨_,rfl⟩
   have hXb:0<=X/\X<256:=by rw[hX];omega
   rw[<-hX]
   refine⟨⟨k+1,by omega,by go_num,M0 ⟨L.set k (UInt8.ofNat X.toNat),?_,?_,?_⟩⟩,by simp[intOf];omega⟩
   ·rw[bO];exact HR.1
   ·exact HR.2.1.setCell (ai _) _
   ·have q:=gI wr k (Vb Vd X) HR.2.2
    rw[ae,an6 L k X hXb]at q
    exact q
  ·have e:k=n:=by omega
   obtain⟨L,hL,hb,hr⟩:=gB HL
   have hcv:=VI (P:=Vh) wr 73 9 5 (a_ w.heap.size 0) n L eP bU eT (fun j hj=>by
    rw[show(((a_ w.heap.size 0):Addr).add j)=(a_ w.heap.size j)from by unfold Addr.add;split<;>simp_all,dh _ _ j _ _ _ hr]
    simp[gY,fe hj])
   rw[hL]at hcv
   have HR:=M0 (show L.length=n/\gm w.heap.size w wr from⟨hL,hb⟩)
   clear hL hb hr HL e
   have hni: ¬(k:Int)<(n:Int):=by omega
   go_wp2
   go_ret
   exact⟨L,HR.1,rfl,HR.2⟩
end Ho
end Go.Proofs.YtdgacidndknceaaGreatDoor
