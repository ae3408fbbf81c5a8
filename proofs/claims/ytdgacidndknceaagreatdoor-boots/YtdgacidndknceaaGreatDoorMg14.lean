import Derived.Test.YtdgacidndknceaaGreatDoorMg11
import Derived.ArgAppend
import Derived.WalkSmall
set_option linter.all false
set_option maxHeartbeats 8000000
set_option maxRecDepth 100000
open Go.ChangeShapes Go.WideShapes Go.ChangeAt Go.RowKit
open Go renaming World → fV, Calls → f_
open Go.RowKit renaming Below → gm
open Go.Proofs.Tryz renaming prog → Vh
open Go.Value renaming int → Vb
open Go.IntKind renaming u8 → Vd, u16 → Ve, u32 → Vf, i64 → Vg
open Go.Proofs.Tryz
namespace Go.Proofs.YtdgacidndknceaaGreatDoor
namespace Ho
open Bs Js
variable{w0 w w':fV} {Q B H:Nat} {m m':Mc} {h h':Host}
structure Al (w0 w:fV) (Q B H:Nat) (m:Mc) (h:Host):Prop where
 bx:Bx w (iq B m) w Q B m
 ho:At w H h
 bl:gm w0.heap.size w0 w
 ng:4<=w0.heap.size
 uq:w0.heap.size<=Q
 uh:w0.heap.size<=H
 uf:∀k,iq B m k->w0.heap.size<=k
theorem Al.nh(k:Al w0 w Q B H m h): ¬iq B m H:=ap5 k.bx.mx k.ho (by decide) (by decide) (by decide)
theorem Al.hq(k:Al w0 w Q B H m h):H≠Q:=by
 rintro rfl;have:=k.ho;unfold At at this;rw[k.bx.row]at this;simp only[bq6,br6]at this;exact absurd this.2.1 (by decide)
theorem Al.af6(k:Al w0 w Q B H m h)(j:Bx w (iq B m) w' Q B m'):Al w0 w' Q B H m' h where
 bx:=j.base
 ho:=(j.mx.kept H (gG k.ho) k.nh).trans k.ho
 bl:=⟨j.mx.os.trans k.bl.os,j.mx.tape.trans k.bl.tape,j.mx.output.trans k.bl.output,bo6 k.bl.size j.mx.size,fun i hi=>(j.mx.kept i (bo9 hi k.bl.size) (fun hf=>by have:=k.uf i hf;omega)).trans (k.bl.block i hi)⟩
 ng:=k.ng
 uq:=k.uq
 uh:=k.uh
 uf:=fun i hi=>by
  rcases j.mx.own i hi with a|a
  ·exact k.uf i a
  exact bo6 k.bl.size a
theorem Al.turned(k:Al w0 w Q B H m h){b:Nat}(t:PU w w' b)(hb: ¬iq B m b)(hq:b≠Q)(hu:w0.heap.size<=b)(hh:At w' H h'):Al w0 w' Q B H m h' where
 bx:=⟨moved k.bx.mx t hb (bo6 k.ng hu),(t.block Q k.bx.lt (fun e=>hq e.symm)).trans k.bx.row⟩
 ho:=hh
 bl:=⟨t.os.trans k.bl.os,t.tape.trans k.bl.tape,t.output.trans k.bl.output,bo6 k.bl.size t.size,fun i hi=>(t.block i (bo9 hi k.bl.size) (fun e=>by omega)).trans (k.bl.block i hi)⟩
 ng:=k.ng
 uq:=k.uq
 uh:=k.uh
 uf:=k.uf
theorem Al.host(k:Al w0 w Q B H m h)(t:PU w w' H)(hh:At w' H h'):Al w0 w' Q B H m h':=k.turned t k.nh k.hq k.uh hh
theorem Al.below(k:Al w0 w Q B H m h)(hb:gm w.heap.size w w'):Al w0 w' Q B H m h:=
 ⟨(k.bx.below hb).base,k.ho.below hb,k.bl.trans (hb.mono k.bl.size),k.ng,k.uq,k.uh,k.uf⟩
def Ou(b0:Nat)(w:fV)(B:Nat)(m:Mc)(v:Value)(q:List ByteArray):Prop:=(v=.slice none 0 0/\q=[])∨∃(g off cap:Nat) (cur:Array Value),v=.slice (some (a_ g off)) q.length cap/\b0<=g/\ ¬iq B m g/\w.heap[g]?=some (.cells cur 9 (0,0))/\off+cap<=cur.size/\q.length<=cap/\∀i (hi:i<q.length),cur[off+i]?=some (.string q[i])
variable{b0:Nat} {v:Value} {q:List ByteArray}
theorem Ou.af6(r:Ou b0 w B m v q)(j:Bx w (iq B m) w' Q B m'):Ou b0 w' B m' v q:=by
 rcases r with r|⟨g,off,cap,cur,h1,h2,h3,h4,h5,h6,h7⟩
 ·exact bo1 r
 refine bo3 ⟨g,off,cap,cur,h1,h2,fun hf=> ?_,(j.mx.kept g (gG h4) h3).trans h4,h5,h6,h7⟩
 rcases j.mx.own g hf with a|a
 ·exact h3 a
 have:=gG h4;omega
theorem Ou.turned(r:Ou b0 w B m v q){b:Nat}(t:PU w w' b){a:Array Value}{ty:TypeId}{z:Nat×Nat}(hk:w.heap[b]?=some (.cells a ty z))(ht:ty≠9):Ou b0 w' B m v q:=by
 rcases r with r|⟨g,off,cap,cur,h1,h2,h3,h4,h5,h6,h7⟩
 ·exact bo1 r
 refine bo3 ⟨g,off,cap,cur,h1,h2,h3,(t.block g (gG h4) (fun e=> ?_)).trans h4,h5,h6,h7⟩;subst e;rw[hk]at h4;simp only[bq6,br6]at h4;exact ht h4.2.1
theorem Ou.host(r:Ou b0 w B m v q)(k:Al w0 w Q B H m h)(t:PU w w' H):Ou b0 w' B m v q:=r.turned t k.ho (by decide)
theorem Ou.below(r:Ou b0 w B m v q)(hb:gm w.heap.size w w'):Ou b0 w' B m v q:=by
 rcases r with r|⟨g,off,cap,cur,h1,h2,h3,h4,h5,h6,h7⟩
 ·exact bo1 r
 exact bo3 ⟨g,off,cap,cur,h1,h2,h3,(hb.block g (gG h4)).trans h4,h5,h6,h7⟩
theorem Ou.own{u:fV}{b:Nat}{ao:Option Addr}{n cp:Nat}(hn:n=q.length)(hb:b0<=b)(o:u.ownsRow b 9 1 (.slice ao n cp) n (Js.strs q))(hf:∀j,b<=j-> ¬iq B m j):Ou b0 u B m (.slice ao n cp) q:=by
 subst hn
 rcases o.2 with⟨h1,h2⟩|⟨g,cap,cur,e1,e2,e3,e4,e5,e6,e7⟩
 ·left
  injection h1 with a1 a2 a3
  subst a1 a3;rw[a2];exact⟨rfl,bB1 a2⟩
 right
 injection e1 with a1 a2 a3
 subst a1 a3;refine⟨g,0,cp,cur,rfl,bo6 hb e2,hf g e2,e3,by rw[e6];omega,e4,fun i hi=> ?_⟩;have z:=by5 (fun z=>z[i]?) e7;simp only[bD2,bz3,hi,bA3,Js.strs,bA0,bq7 hi,Option.map_some]at z;rw[br1]at z;rw[by0];exact z
end Ho
namespace Ho
open Bs Js
variable{K:Nat→Nat} {w:fV} {Q B H:Nat}
theorem bc8{a b:Nat}(h:a<b):(a:Int)<(b:Int):=Int.ofNat_lt.2 h
theorem ba7{a b:Nat}(h: ¬a<b): ¬(a:Int)<(b:Int):=fun q=>h (Int.ofNat_lt.1 q)
theorem Bd{x y:Int}(h:x≠y):(x==y)=false:=by simpa using h
theorem Ld{x y:Int}(h:x=y):(x==y)=true:=by simpa using h
end Ho
namespace Ho
open Bs Js
variable{w0 w w':fV} {Q B H G:Nat} {m m':Mc} {h h':Host}
def bf4(w:fV)(G:Nat)(ls:Value)(n lo:Int)(z:Int×Int×Int×Int):Prop:=∃a d e x:Int,w.heap[G]?=some (.cells #[ls,Vb Vg n,Vb Vg lo,Vb Vg a,Vb Vg z.1,Vb Vg z.2.1,Vb Vf d,Vb Vg e,Vb Vg z.2.2.1,Vb Vg x,Vb Vg z.2.2.2] 81 (0,0))
def lk(m:Mc):Int×Int×Int×Int:=(m.st,m.phase,((m.ql.length:Nat):Int),((m.cached:Nat):Int))
def Los(w:fV)(ls:Value):Prop:=∃(la:Option Addr) (n c:Nat),ls=.slice la n c/\∀i,i<n->∃g o v,la=some (a_ g o)/\w.cell? (a_ g (o+i))=some (Vb Vg v)
def Gn(w:fV)(G:Nat)(ls:Value)(n base:Int)(m:Mc)(ee:Ending)(w':fV):Prop:=∃bb lo',ee=.returned (.bool bb)/\PU w w' G/\bf4 w' G ls (n+1) lo' (lk m)/\(bb=false/\lo'=base∨bb=true/\base<2/\lo'=base+1)
theorem bL7{ls:Value}{n base:Int}{ee:Ending}(e:ee=.returned (.bool false))(t:PU w w' G)(l:bf4 w' G ls (n+1) base (lk m)):Gn w G ls n base m ee w':=⟨false,base,e,t,l,bo1 ⟨rfl,rfl⟩⟩
theorem bS6{ls:Value}{n base:Int}{ee:Ending}(e:ee=.returned (.bool true))(t:PU w w' G)(l:bf4 w' G ls (n+1) (base+1) (lk m))(h:base<2):Gn w G ls n base m ee w':=⟨true,base+1,e,t,l,bo3 ⟨rfl,h,rfl⟩⟩
theorem bV9{a b c d a' b' c' d':Int}(h:(a !=a')=true):(a,b,c,d)≠(a',b',c',d'):=fun e=>by
 have e1:a=a':=by5 (fun x=>x.1) e;rw[e1]at h;simp at h
theorem bW0{a b c d a' b' c' d':Int}(h:(b !=b')=true):(a,b,c,d)≠(a',b',c',d'):=fun e=>by
 have e1:b=b':=by5 (fun x=>x.2.1) e;rw[e1]at h;simp at h
theorem bW9{a b c d a' b' c' d':Int}(h:(c !=c')=true):(a,b,c,d)≠(a',b',c',d'):=fun e=>by
 have e1:c=c':=by5 (fun x=>x.2.2.1) e;rw[e1]at h;simp at h
theorem bV7{a b c d a' b' c' d':Int}(h:(d !=d')=true):(a,b,c,d)≠(a',b',c',d'):=fun e=>by
 have e1:d=d':=by5 (fun x=>x.2.2.2) e;rw[e1]at h;simp at h
theorem bW8{a b c d a' b' c' d':Int}(h1:(a !=a')=false)(h2:(b !=b')=false)(h3:(c !=c')=false)(h4:(d !=d')=false):(a,b,c,d)=(a',b',c',d'):=by
 simp at h1 h2 h3 h4;rw[h1,h2,h3,h4]
theorem bI8{p:Prop}(h: ¬p):(true=true↔ ¬p):=⟨fun _=>h,fun _=>rfl⟩
theorem bU2{p:Prop}(h:p):(false=true↔ ¬p):=⟨fun e=>(by cases e),fun e=>absurd h e⟩
theorem bU1{n:Int}{nl:Nat}(hn:0<=n/\n<=4000000000):(n+1).tmod (nl:Int)=(((n+1).toNat%nl:Nat):Int):=by
 rw[bz4 (by omega)];have e:n+1=(((n+1).toNat:Nat):Int):=by omega
 rw[e];exact(Int.natCast_emod _ _).symm
theorem bW4{n:Nat}(h: ¬n=0):((n:Int)==0)=false:=by
 have:(n:Int)≠0:=by omega
 simpa using this
theorem bW2{x:Int}(h:0<=x)(h2:x<2):wrap64 (x+1)=x+1:=by unfold wrap64;omega
theorem bV0{p:Prop}[Decidable p]{x:Int}(h:0<=x):0<=(if p then x else 0):=by split<;>omega
theorem bT4{n:Nat}(h: ¬n=0):(0:Int)<(n:Int):=by omega
theorem bU6{ix nl:Nat}{x n:Int}(h:ix=(n+1).toNat%nl)(hx:x=(ix:Int))(hn: ¬nl=0):0<=x/\x<(nl:Int):=by
 have:=bu0 (n+1).toNat (yg hn);omega
theorem bS3{ls:Value}{n lo:Int}{z:Int×Int×Int×Int}(hbx:Bx w (iq B m) w Q B m)(hl:bf4 w G ls n lo z)(hn:0<=n/\n<=4000000000)(hlo:0<=lo)(hnf: ¬iq B m G)(hgq:G≠Q)(hng:4<=G)(hs:∀u,PU w u G->Los u ls):
  f_ Vh 26 #[p_ G,p_ Q] w fun ee w'=>Gn w G ls n (if lk m=z then lo else 0) m ee w':=by
 obtain⟨b,c,f,y⟩:=z;obtain⟨a,d,e,x,hr0⟩:=hl;have hr:w.heap[G]?=some (.cells #[ls,Vb Vg n,Vb Vg lo,Vb Vg a,Vb Vg b,Vb Vg c,Vb Vf d,Vb Vg e,Vb Vg f,Vb Vg x,Vb Vg y] 81 (0,0)):=hr0;clear hr0;obtain⟨base,hbase⟩:=ex_ ((if lk m=(b,c,f,y)then lo else 0));have HBA:=Fe hbase;have hlb:0<=base:=by rw[hbase];exact bV0 hlo
 rw[<-hbase];clear hbase;have hn1:wrap64 (n+1)=n+1:=by unfold wrap64;omega
 have hGl:=gG hr;have r1:=bn0 w G 1 _ _ _ hr;have f1:w.frozen? (a_ G 1)=false:=by simp[World.frozen?,hr]
 have r1':w.cell? (a_ G 1)=some (Vb Vg n):=r1;clear r1;obtain⟨X,hX⟩:=ex_ (w.setCell (a_ G 1) (Vb Vg (n+1)));have HR:Hid (X.heap[G]?=some (.cells #[ls,Vb Vg (n+1),Vb Vg lo,Vb Vg a,Vb Vg b,Vb Vg c,Vb Vf d,Vb Vg e,Vb Vg f,Vb Vg x,Vb Vg y] 81 (0,0))):=Fe (by rw[hX];exact gI w 1 _ hr);have HT:Hid (PU w X G):=Fe (by rw[hX];exact aA);have HA:Hid (Bx X (iq B m) X Q B m):=Fe ⟨moved hbx.mx HT hnf hng,(HT.block Q hbx.lt (fun e=>hgq e.symm)).trans hbx.row⟩;have HL:=Fe (DC HA);have HLS:=Fe hs;clear hbx hr hs hnf hgq hng;go_enter func26,ntmps26;go_wp2_with fail;rw[<-hX];clear hX r1' f1;refine on_ HL fun u1 hb1=>?_;have HR1:Hid (u1.heap[G]?=some (.cells #[ls,Vb Vg (n+1),Vb Vg lo,Vb Vg a,Vb Vg b,Vb Vg c,Vb Vf d,Vb Vg e,Vb Vg f,Vb Vg x,Vb Vg y] 81 (0,0))):=Fe ((hb1.block G (gG HR)).trans HR);have HT1:Hid (PU w u1 G):=Fe (Sd HT hb1);clear hb1 HL HA HR HT;obtain⟨r0,r1,r2,r3,r4,r5,r6,r7,r8,r9,r10⟩:=ao0 HR1;have hGu:=gG HR1;have hGn:G≠u1.heap.size:=bo5 hGu;obtain⟨L,hL⟩:∃L:Int,L=((m.ql.length:Nat):Int):=⟨_,rfl⟩;have HLE:=Fe hL;obtain⟨b0,hb0⟩:=ex_ u1.heap.size;obtain⟨Y,hY⟩:=ex_ (u1.alloc (.cells (rC m.now m.st m.phase m.addr m.boots m.ql.length m.lost m.cached) 48));have HY:Hid (PU w Y G/\Y.heap[G]?=some (.cells #[ls,Vb Vg (n+1),Vb Vg lo,Vb Vg a,Vb Vg b,Vb Vg c,Vb Vf d,Vb Vg e,Vb Vg f,Vb Vg x,Vb Vg y] 81 (0,0))/\Y.heap[b0]?=some (.cells (rC m.now m.st m.phase m.addr m.boots L m.lost m.cached) 48 (0,0))):=Fe (by
  rw[hY,hL,hb0]
  exact⟨Sd HT1 b1_,(bn8 _ _ _ hGu).trans HR1,bn3 u1 _⟩)
 go_wp2_with fail;rw[<-hY,<-hb0];have hbG:b0≠G:=by rw[hb0];exact fun e=>hGn e.symm
 clear hY hb0 hL r0 r1 r2 r3 r4 r5 r6 r7 r8 r9 r10 hGu hGn HR1 HT1;obtain⟨r0,r1,r2,r3,r4,r5,r6,r7,r8,r9,r10⟩:=ao0 HY.2.1;have q0:Y.cell? (a_ b0 0)=some (Vb Vg m.now):=bn0 Y b0 0 _ _ _ HY.2.2;have q3:Y.cell? (a_ b0 3)=some (Vb Vf m.addr):=bn0 Y b0 3 _ _ _ HY.2.2;have q4:Y.cell? (a_ b0 4)=some (Vb Vg m.boots):=bn0 Y b0 4 _ _ _ HY.2.2;have q6:Y.cell? (a_ b0 6)=some (Vb Vg m.lost):=bn0 Y b0 6 _ _ _ HY.2.2;have fz:∀j,Y.frozen? (a_ G j)=false:=fun j=>by simp[World.frozen?,HY.2.1]
 have q1:Y.cell? (a_ b0 1)=some (Vb Vg m.st):=bn0 Y b0 1 _ _ _ HY.2.2;have q2:Y.cell? (a_ b0 2)=some (Vb Vg m.phase):=bn0 Y b0 2 _ _ _ HY.2.2;have q5:Y.cell? (a_ b0 5)=some (Vb Vg L):=bn0 Y b0 5 _ _ _ HY.2.2;have q7:Y.cell? (a_ b0 7)=some (Vb Vg m.cached):=bn0 Y b0 7 _ _ _ HY.2.2;obtain⟨ca,hca⟩:∃ca:Int,ca=((m.cached:Nat):Int):=⟨_,rfl⟩;rw[<-hca]at q7;have HCE:=Fe hca;clear hca;have HQ:Hid (lk m=(m.st,m.phase,L,ca)):=Fe (by unfold lk;rw[<-gB HLE,<-gB HCE]);have hcs:(m.st !=b)=true∨(m.st !=b)=false/\(m.phase !=c)=true∨(m.st !=b)=false/\(m.phase !=c)=false/\(L !=f)=true∨(m.st !=b)=false/\(m.phase !=c)=false/\(L !=f)=false/\(ca !=y)=true∨(m.st !=b)=false/\(m.phase !=c)=false/\(L !=f)=false/\(ca !=y)=false:=by
  cases (m.st !=b)<;>cases (m.phase !=c)<;>cases (L !=f)<;>cases (ca !=y)<;>simp
 go_cut [52] (fun v wc=>∃bb,v=.bool bb/\Hid (bb=true↔lk m≠(b,c,f,y))/\Hid (∃k,wc=Y.drewN k));case first=>
  rcases hcs with g1|⟨g1,g2⟩|⟨g1,g2,g3⟩|⟨g1,g2,g3,g4⟩|⟨g1,g2,g3,g4⟩
  ·have HE:Hid (lk m≠(b,c,f,y)):=Fe (by rw[gB HQ];exact bV9 g1)
   go_quiet (fail);go_wp2;go_meet;exact⟨_,rfl,Fe (bI8 HE),Fe ⟨nq,rfl⟩⟩
  ·have HE:Hid (lk m≠(b,c,f,y)):=Fe (by rw[gB HQ];exact bW0 g2)
   go_quiet (fail);go_wp2;go_meet;exact⟨_,rfl,Fe (bI8 HE),Fe ⟨nq,rfl⟩⟩
  ·have HE:Hid (lk m≠(b,c,f,y)):=Fe (by rw[gB HQ];exact bW9 g3)
   go_quiet (fail);go_wp2;go_meet;exact⟨_,rfl,Fe (bI8 HE),Fe ⟨nq,rfl⟩⟩
  ·have HE:Hid (lk m≠(b,c,f,y)):=Fe (by rw[gB HQ];exact bV7 g4)
   go_quiet (fail);go_wp2;go_meet;exact⟨_,rfl,Fe (bI8 HE),Fe ⟨nq,rfl⟩⟩
  have HE:Hid (lk m=(b,c,f,y)):=Fe (by rw[gB HQ];exact bW8 g1 g2 g3 g4);go_quiet (fail);go_wp2;go_meet;exact⟨_,rfl,Fe (bU2 HE),Fe ⟨nq,rfl⟩⟩
 obtain⟨bb,rfl,HBB,HK⟩:=hcut;obtain⟨nq,hnq⟩:=gB HK;subst hnq;go_upto_if 52 with fail;go_cut [] (fun wz=>Hid (PU w wz G/\bf4 wz G ls (n+1) base (lk m)));case first=>
  cases bb with
  |true=>
   have HW:Hid (PU w ((((((((((Y.drewN nq).setCell (a_ G 3) (Vb Vg m.now)).setCell (a_ G 4) (Vb Vg m.st)).setCell (a_ G 5) (Vb Vg m.phase)).setCell (a_ G 6) (Vb Vf m.addr)).setCell (a_ G 7) (Vb Vg m.boots)).setCell (a_ G 8) (Vb Vg L)).setCell (a_ G 9) (Vb Vg m.lost)).setCell (a_ G 10) (Vb Vg ca)).setCell (a_ G 2) (Vb Vg 0)) G/\bf4 ((((((((((Y.drewN nq).setCell (a_ G 3) (Vb Vg m.now)).setCell (a_ G 4) (Vb Vg m.st)).setCell (a_ G 5) (Vb Vg m.phase)).setCell (a_ G 6) (Vb Vf m.addr)).setCell (a_ G 7) (Vb Vg m.boots)).setCell (a_ G 8) (Vb Vg L)).setCell (a_ G 9) (Vb Vg m.lost)).setCell (a_ G 10) (Vb Vg ca)).setCell (a_ G 2) (Vb Vg 0)) G ls (n+1) base (lk m)):=Fe (by
    have hd:(Y.drewN nq).heap=Y.heap:=rfl
    have q:=aA0 (Y:=Y.drewN nq) (Vb Vg 0) (Vb Vg m.now) (Vb Vg m.st) (Vb Vg m.phase) (Vb Vf m.addr) (Vb Vg m.boots) (Vb Vg L) (Vb Vg m.lost) (Vb Vg ca) (by rw[hd];exact HY.2.1)
    have eb:base=0:=HBA.trans (bo4 (HBB.1 rfl))
    rw[gB HQ,eb]
    exact⟨PU.go (Sd HY.1 (below_drewN (bn9 _ _) _)) q.2,_,_,_,_,q.1⟩)
   clear HBB HBA HQ;go_wp2;go_meet;exact Fe (gB HW)
  |false=>
   have HW:Hid (PU w (Y.drewN nq) G/\bf4 (Y.drewN nq) G ls (n+1) base (lk m)):=Fe (by
    have hd:(Y.drewN nq).heap=Y.heap:=rfl
    have el:lk m=(b,c,f,y):=Decidable.byContradiction (fun e=>by have:=HBB.2 e;cases this)
    have eb:base=lo:=HBA.trans (bp0 el)
    rw[el,eb]
    exact⟨Sd HY.1 (below_drewN (bn9 _ _) _),_,_,_,_,by rw[hd];exact HY.2.1⟩)
   clear HBB HBA HQ;go_wp2;go_meet;exact Fe (gB HW)
 rename fV=>Z;have HZ:Hid (PU w Z G/\bf4 Z G ls (n+1) base (lk m)):=hcut;clear HY HBB HBA HQ HK r0 r1 r2 r3 r4 r5 r6 r7 r8 r9 r10 q0 q1 q2 q3 q4 q5 q6 q7 fz hcs hcut;obtain⟨a2,d2,e2,x2,hrz⟩:=HZ.2;have r0:Z.cell? (a_ G 0)=some ls:=bn0 Z G 0 _ _ _ hrz;have r1:Z.cell? (a_ G 1)=some (Vb Vg (n+1)):=bn0 Z G 1 _ _ _ hrz;have r2:Z.cell? (a_ G 2)=some (Vb Vg base):=bn0 Z G 2 _ _ _ hrz;have fz2:Z.frozen? (a_ G 2)=false:=by simp[World.frozen?,hrz]
 have HRZ:=Fe hrz;obtain⟨la,nl,cl,rfl,hcell⟩:=HLS Z HZ.1;clear hrz;go_upto_region 6 with fail
 by_cases hnl:nl=0
 ·subst hnl
  go_quiet (fail);go_wp2;go_ret;exact bL7 rfl (Sd HZ.1 (below_drewN (bn9 _ _) _)) ⟨_,_,_,_,HRZ⟩
 obtain⟨ix,hix⟩:∃ix:Nat,ix=(n+1).toNat%nl:=⟨_,rfl⟩;obtain⟨g5,o5,v5,rfl,hc5⟩:=hcell ix (by rw[hix];exact bu0 _ (yg hnl));obtain⟨x5,hx5⟩:∃x5:Int,x5=(ix:Int):=⟨_,rfl⟩;have e5:(n+1).tmod (nl:Int)=x5:=by rw[hx5,hix];exact bU1 hn
 have l5:=bT4 hnl;have l6:=yg hnl;have z5:((nl:Int)==0)=false:=bW4 hnl;have b5:=bU6 hix hx5 hnl;have hc6:Z.cell? (a_ g5 (o5+x5.toNat))=some (Vb Vg v5):=by rw[hx5];exact hc5
 clear hcell hc5 hix hx5;obtain⟨q5,hq5⟩:∃q5:Int,v5.tmod 3=q5:=⟨_,rfl⟩
 by_cases h3:q5=0
 ·have h3b:=Ld h3
  by_cases hb2:base<2
  ·have hw1:wrap64 (base+1)=base+1:=bW2 hlb hb2
   have HRS:=fun k:Nat=>Fe (gI (Z.drewN k) 2 (Vb Vg (base+1)) (show(Z.drewN k).heap[G]?=_ from gB HRZ));go_quiet (fail);replace hb2:=Fe hb2
   go_wp2;go_ret;exact bS6 rfl (PU.go (Sd HZ.1 (below_drewN (bn9 _ _) _)) aA) ⟨_,_,_,_,gB (HRS _)⟩ hb2
  go_quiet (fail);replace hb2:=Fe hb2
  go_wp2;go_ret;exact bL7 rfl (Sd HZ.1 (below_drewN (bn9 _ _) _)) ⟨_,_,_,_,HRZ⟩
 have h3b:=Bd h3;go_quiet (fail);go_wp2;go_ret;exact bL7 rfl (Sd HZ.1 (below_drewN (bn9 _ _) _)) ⟨_,_,_,_,HRZ⟩
end Ho
namespace Ho
open Bs Js
variable{w0 w w' u:fV} {Q B H G:Nat} {m m':Mc} {h h':Host} {K:Nat→Nat}
def bd9(R:fV->(Nat->Prop)->Prop)(m:Mc)(Z:Mc->Prop):Prop:=∀(w:fV) (Q B:Nat),Bx w (iq B m) w Q B m->R w (iq B m)->f_ Vh 17 #[p_ Q,Vb Vg 2] w fun ee w'=>(∃k:Int,1<=k/\ee=.returned (Vb Vg k))/\∃mz,Z mz/\Bx w (iq B m) w' Q B mz
def bse(m:Mc)(z:Int×Int×Int×Int)(lo:Int):Int:=if lk m=z then lo else 0
abbrev Lz:=Int×Int×Int×Int
structure bU7 (K:Nat->Nat) (T:Nat) (I:Nat->Mc->Host->Lz->Int->Prop) (J:Nat->Nat->List ByteArray->Mc->Host->Lz->Int->Prop) (A:Nat->Nat->List ByteArray->Mc->Host->Lz->Int->List ByteArray->Prop):Prop where
 tick:∀t m h z lo,t<T->I t m h z lo->bi5 (Tk K) m (7*t) (fun mz=>J 10000 t mz.gq mz.taken {h with now:=(t:Int)+1} z lo)
 frame:∀k t f r m h z lo,J k t (f::r) m h z lo->∃k' l h',k=k'+1/\YC NA h f l h'/\l.length<=8/\(∀s ∈ l,s.size<=2000)/\(bse m z lo<2->J k' t r m h' (lk m) (bse m z lo+1))/\A k' t r m h' (lk m) (bse m z lo) l
 ans:∀k t r m h z lo a l,A k t r m h z lo (a::l)->(bse m z lo<2->A k t r m h (lk m) (bse m z lo+1) l)/\m.cq.length+1<m.rx/\bd9 (Tk K) (m.put a) (fun mz=>A k t r mz h (lk m) (bse m z lo) l)/\bd9 (Tk K) ((m.put a).put a) (fun mz=>A k t r mz h (lk m) (bse m z lo) l)
 all:∀k t r m h z lo,A k t r m h z lo []->J k t r m h z lo
 more:∀k t m h z lo,J k t [] m h z lo->∃k',k'<=k/\J k' t m.gq m.taken h z lo
 done:∀k t m h z lo,J k t [] m h z lo->m.gq=[]->m.phase=3∨m.phase≠3/\m.phase≠4/\t+1<T/\I (t+1) m h z lo
 low:∀t m h z lo,I t m h z lo->0<=lo
 bU5:∀k t q m h z lo,J k t q m h z lo->0<=lo
 bV2:∀k t q m h z lo l,A k t q m h z lo l->0<=lo
structure Ab (w0 w:fV) (Q B H G:Nat) (ls:Value) (m:Mc) (h:Host) (n:Int) (z:Lz) (lo:Int):Prop where
 al:Al w0 w Q B H m h
 lu:bf4 w G ls n lo z
 ug:w0.heap.size<=G
 ls0:∀u,gm w0.heap.size w0 u->Los u ls
theorem bf4.of{ls:Value}{n lo:Int}{z:Lz}(k:bf4 w G ls n lo z)(e:w'.heap[G]?=w.heap[G]?):bf4 w' G ls n lo z:=by
 obtain⟨a,d,e',x,q⟩:=k;exact⟨a,d,e',x,e.trans q⟩
theorem bf4.row{ls:Value}{n lo:Int}{z:Lz}(k:bf4 w G ls n lo z):∃a,w.heap[G]?=some (.cells a 81 (0,0)):=by
 obtain⟨a,d,e',x,q⟩:=k;exact⟨_,q⟩
variable{ls:Value} {n lo:Int} {z:Lz}
theorem Ab.nf(k:Ab w0 w Q B H G ls m h n z lo): ¬iq B m G:=by
 obtain⟨a,e⟩:=k.lu.row;exact ap5 k.al.bx.mx e (by decide) (by decide) (by decide)
theorem Ab.gq(k:Ab w0 w Q B H G ls m h n z lo):G≠Q:=by
 rintro rfl;obtain⟨a,e⟩:=k.lu.row;rw[k.al.bx.row]at e;simp only[bq6,br6]at e;exact absurd e.2.1 (by decide)
theorem Ab.hg(k:Ab w0 w Q B H G ls m h n z lo):H≠G:=by
 rintro rfl;obtain⟨a,e⟩:=k.lu.row;have:=k.al.ho;unfold At at this;rw[e]at this;simp only[bq6,br6]at this;exact absurd this.2.1 (by decide)
theorem Ab.af6(k:Ab w0 w Q B H G ls m h n z lo)(j:Bx w (iq B m) w' Q B m'):Ab w0 w' Q B H G ls m' h n z lo:=by
 obtain⟨a,e⟩:=k.lu.row;exact⟨k.al.af6 j,k.lu.of (j.mx.kept G (gG e) k.nf),k.ug,k.ls0⟩
theorem Ab.host(k:Ab w0 w Q B H G ls m h n z lo)(t:PU w w' H)(hh:At w' H h'):Ab w0 w' Q B H G ls m h' n z lo:=by
 obtain⟨a,e⟩:=k.lu.row;exact⟨k.al.host t hh,k.lu.of (t.block G (gG e) (fun e=>k.hg e.symm)),k.ug,k.ls0⟩
theorem Ab.below(k:Ab w0 w Q B H G ls m h n z lo)(hb:gm w.heap.size w w'):Ab w0 w' Q B H G ls m h n z lo:=by
 obtain⟨a,e⟩:=k.lu.row;exact⟨k.al.below hb,k.lu.of (hb.block G (gG e)),k.ug,k.ls0⟩
theorem Ab.au8{n' lo':Int}{z':Lz}(k:Ab w0 w Q B H G ls m h n z lo)(t:PU w w' G)(hl:bf4 w' G ls n' lo' z'):Ab w0 w' Q B H G ls m h n' z' lo':=
 ⟨k.al.turned t k.nf k.gq k.ug ((t.block H (gG k.al.ho) k.hg).trans k.al.ho),hl,k.ug,k.ls0⟩
theorem Ab.gone(k:Ab w0 w Q B H G ls m h n z lo)(hn:0<=n/\n<=4000000000)(hlo:0<=lo):f_ Vh 26 #[p_ G,p_ Q] w fun ee w'=>Gn w G ls n (bse m z lo) m ee w':=
 bS3 k.al.bx k.lu hn hlo k.nf k.gq (bo6 k.al.ng k.ug) (fun u t=>k.ls0 u ⟨t.os.trans k.al.bl.os,t.tape.trans k.al.bl.tape,t.output.trans k.al.bl.output,bo6 k.al.bl.size t.size,fun i hi=>(t.block i (bo9 hi k.al.bl.size) (fun e=>by have:=k.ug;omega)).trans (k.al.bl.block i hi)⟩)
end Ho
namespace Ho
open Bs Js
variable{w w':fV} {H:Nat} {h:Host}
theorem bI0(bl:Nat)(D:List UInt8)(h:D.length<=1024):(Tf.U7 (WN bl D)).length<=262144:=by
 unfold Tf.U7
 split
 ·show(Tf.Mq (WN bl D)).length<=_
  simp[Tf.Mq,WN,Tf.TU];omega
 simp
def Host.blG(h:Host)(b k:Nat):List UInt8:=(h.image.data.toList.drop (k*b)).take b
def Host.bM1(h:Host)(b:Nat)(f:Int)(k:Nat):ByteArray:=h.frame h.port f (YD ((k+1)%65536) (h.blG b k)) h.next 167772215
def Host.bd8(h:Host)(b:Nat)(f:Int)(s n:Nat):List ByteArray:=(List.range n).map fun i=>(h.YP i).bM1 b f (s+i)
theorem bK9(h:Host)(b:Nat)(f:Int)(s n:Nat):h.bd8 b f s (n+1)=h.bd8 b f s n++ [(h.YP n).bM1 b f (s+n)]:=by
 unfold Host.bd8;rw[List.range_succ,bv7];rfl
theorem bU4(k b:Nat)(iv:Int)(hv:iv=(k:Int))(hk:k<=1000100)(hb:b<=1024):IntKind.i64.wrap (iv*b)=((k*b:Nat):Int):=by
 have h1:=Nat.mul_le_mul hk hb;rw[hv,<-Int.natCast_mul];exact az7 _ (by omega)
theorem bL0(img:ByteArray)(k b:Nat)(lo mn:Int)(h1:lo=((k*b:Nat):Int))(h2:lo<=img.size)(h3:mn=min (img.size:Int) (((k+1)*b:Nat):Int))(u:fV):
  (Instr.sliceAt 9 (.string img) (some (Vb Vg lo)) (some (Vb Vg mn)) none).run Vh u=.ok (.string ⟨((img.data.toList.drop (k*b)).take b).toArray⟩) u:=by
 rw[Cs]at h3;generalize k*b=kb at h1 h3 ⊢;have hl:0<=lo:=by omega
 have hm:lo<=mn:=by omega
 have hz:mn<=(img.size:Int):=by omega
 have e:img.extract lo.toNat mn.toNat=⟨((img.data.toList.drop kb).take b).toArray⟩:=by
  apply bC8;apply bD1;rw[bv3,bC2];have hls:=jc img;have ea:lo.toNat=kb:=by omega
  rw[ea];show(img.data.toList.drop kb).take (mn.toNat-kb)=(img.data.toList.drop kb).take b
  by_cases hc:kb+b<=img.size
  ·rw[show mn.toNat-kb=b by omega]
  rw[bt6 (by rw[bq8];omega),bt6 (by rw[bq8];omega)]
 rw[<-e];clear e h1 h2 h3;go_simp
variable{u u':fV} {f t:Int} {ld:ByteArray} {v:Value} {n:Nat} {l:List ByteArray}
theorem bh7(k:At w H h)(c:NA w)(hH0:(0:Nat)≠H)(hH1:(1:Nat)≠H)(f t:Int)(ld:ByteArray)(hF:0<=f/\f<=65535)(hp:0<=h.port/\h.port<=65535)(hn:0<=h.next/\h.next<=4294967295)(b:Nat)(hb:h.block=b)(hb0:b<=1024)(s wn N:Nat)(hs:h.sent=s)(hsz:s<=1000000)(hw:h.window=wn)(hwz:wn<=8)(hi:h.image.size<=1000000)
  (hN:N<=wn) (hN1:∀i,i<N->(s+i)*b<=h.image.size) (hN2:N=wn∨h.image.size<(s+N)*b):
  f_ Vh 73 #[p_ H,.agg (rF f t ld)] w fun ee w'=>∃ao cp,ee=.returned (.slice ao N cp)/\w'.ownsRow w.heap.size 9 1 (.slice ao N cp) N (Js.strs (h.bd8 b f s N))/\At w' H (h.YP N)/\PU w w' H:=by
 have hlt:=gG k;have hHn:H≠w.heap.size:=bo5 hlt;obtain⟨sI,hsI⟩:∃sI:Int,sI=h.sent:=⟨_,rfl⟩;obtain⟨wI,hwI⟩:∃wI:Int,wI=h.window:=⟨_,rfl⟩;obtain⟨bI,hbI⟩:∃bI:Int,bI=h.block:=⟨_,rfl⟩;have HBI:Hid (bI=(b:Int)/\b<=1024):=Fe ⟨hbI.trans hb,hb0⟩;have c7:w.cell? (a_ H 7)=some (Vb Vg sI):=by rw[hsI];exact k.cell 7
 obtain⟨X,hX⟩:=ex_ (w.alloc (.cells (rF f t ld) 69));have hcl:=c.lt;have HX:Hid (Bk w X H (h.YP 0) f t ld (.slice none 0 0) 0 (h.bd8 b f s 0)):=Fe (by
  have hb2:gm w.heap.size w X:=by rw[hX];exact(bn9 _ _).alloc (bn7 _) _
  exact⟨k.below hb2,c.below hb2,⟨hb2.os,hb2.tape,hb2.output,hb2.size,fun j hj _=>hb2.block j hj⟩,by rw[hX];exact bn3 w _,bq3 _ _ _ _⟩)
 have HQ:Hid (sI=s/\wI=wn/\s<=1000000/\wn<=8/\h.image.size<=1000000/\N<=wn/\(∀i,i<N->(s+i)*b<=h.image.size)/\(N=wn∨h.image.size<(s+N)*b)):=Fe ⟨hsI.trans hs,hwI.trans hw,hsz,hwz,hi,hN,hN1,hN2⟩;have HSW:Hid (h.sent=sI/\h.window=wI/\h.block=bI):=Fe ⟨hsI.symm,hwI.symm,hbI.symm⟩;clear k c hs hw hsz hwz hi hN hN1 hN2 hsI hwI hb hbI hb0;go_enter func73,ntmps73;go_wp2_with fail;rw[<-hX];clear hX c7;go_loopg [5,6] (N+1) (fun gk v i wr=>∃(n:Nat) (iv:Int) (ao:Option Addr) (cp:Nat),i=Vb Vg iv/\v=.slice ao n cp/\Hid (n<=N/\gk+n=N+1/\iv=(s:Int)+n)/\Hid (Bk w wr H (h.YP n) f t ld (.slice ao n cp) n (h.bd8 b f s n)))
 case atStart=>exact⟨0,sI,none,0,rfl,rfl,Fe ⟨bp3 _,rfl,by rw[HQ.1];simp⟩,HX⟩
 obtain⟨n,iv,ao,cp,rfl,rfl,HN,HS⟩:=hrel;clear HX;have r0:wr.cell? (a_ H 0)=some (.string h.image):=HS.at'.cell 0;have r4:wr.cell? (a_ H 4)=some (Vb Ve h.port):=HS.at'.cell 4;have r2:wr.cell? (a_ H 2)=some (Vb Vf h.next):=HS.at'.cell 2;have r5:wr.cell? (a_ H 5)=some (Vb Vg bI):=by rw[<-HSW.2.2];exact HS.at'.cell 5
 have r6:wr.cell? (a_ H 6)=some (Vb Vg wI):=by rw[<-HSW.2.1];exact HS.at'.cell 6
 have r7:wr.cell? (a_ H 7)=some (Vb Vg sI):=by rw[<-HSW.1];exact HS.at'.cell 7
 obtain⟨X1,hX1,HX1⟩:∃X1:Int,IntKind.i64.wrap (sI+wI)=X1/\Hid (X1=(s:Int)+wn):=⟨_,rfl,Fe (by
  obtain⟨e1,e2,e3,e4,_⟩:=gB HQ
  rw[e1,e2];exact az7 _ (by omega))⟩
 obtain⟨lo,hlo,HLO⟩:∃lo:Int,IntKind.i64.wrap (iv*bI)=lo/\Hid (lo=(((s+n)*b:Nat):Int)):=⟨_,rfl,Fe (by
  obtain⟨e1,e2,e3,e4,e5,e6,_⟩:=gB HQ
  have:=HN.1
  rw[HBI.1]
  exact bU4 (s+n) b iv (by have:=HN.2.2;omega) (by omega) HBI.2)⟩
 by_cases hlt2:n<N
 ·have g1:decide (iv<X1)=true:=by
   have:=HN.2.2;have:=gB HX1;have:=HQ.2.2.2.2.2.1;simp;omega
  have g2:decide (lo<=(h.image.size:Int))=true:=by
   have:=gB HLO;have:=HQ.2.2.2.2.2.2.1 n hlt2;simp;omega
  obtain⟨i1,hi1,HI1⟩:∃i1:Int,IntKind.i64.wrap (iv+1)=i1/\Hid (i1=(s:Int)+n+1):=⟨_,rfl,Fe (by
   obtain⟨e1,e2,e3,e4,e5,e6,_⟩:=gB HQ
   have:=HN.1
   rw[HN.2.2]
   exact az7 _ (by omega))⟩
  obtain⟨bl,hbl,HBL⟩:∃bl:Int,IntKind.u16.wrap i1=bl/\Hid (bl=(((s+n+1)%65536:Nat):Int)):=⟨_,rfl,Fe (by
   rw[gB HI1]
   show((s:Int)+n+1)%65536=_
   omega)⟩
  obtain⟨hi,hhi,HHI⟩:∃hi:Int,IntKind.i64.wrap (i1*bI)=hi/\Hid (hi=(((s+n+1)*b:Nat):Int)):=⟨_,rfl,Fe (by
   obtain⟨e1,e2,e3,e4,e5,e6,_⟩:=gB HQ
   have:=HN.1
   rw[HBI.1]
   exact bU4 (s+n+1) b i1 (by have:=gB HI1;omega) (by omega) HBI.2)⟩
  obtain⟨dS,hdS⟩:∃dS:ByteArray,dS=⟨(h.blG b (s+n)).toArray⟩:=⟨_,rfl⟩;obtain⟨mn,hmn,HMN⟩:∃mn:Int,min (h.image.size:Int) hi=mn/\Hid (lo<=mn/\mn<=h.image.size/\mn<=hi):=⟨_,rfl,Fe (by
   have h1:=gB HLO
   have h2:=gB HHI
   have h3:=HQ.2.2.2.2.2.2.1 n hlt2
   rw[Cs]at h2
   generalize(s+n)*b=kb at h1 h2 h3
   omega)⟩
  have hsl:∀u:fV,(Instr.sliceAt 9 (.string h.image) (some (Vb Vg lo)) (some (Vb Vg mn)) none).run Vh u=.ok (.string dS) u:=fun u=>by
   have e1:=gB HLO;have e2:=gB HHI;have e3:=HQ.2.2.2.2.2.2.1 n hlt2;rw[hdS];refine bL0 h.image (s+n) b lo mn ?_ ?_ ?_ u
   ·omega
   ·omega
   rw[<-hmn,e2]
  have HW5:Hid (∀u:fV,f_ Vh 74 #[.agg (rG 3 bl ⟨#[]⟩ dS none 0 0)] u fun ee w'=>ee=.returned (.tuple #[.string (YD ((s+n+1)%65536) (h.blG b (s+n))),Vb Vg (Tf.UU (WN ((s+n+1)%65536) (h.blG b (s+n))))])/\gm u.heap.size u w'):=Fe (fun u=>by
   refine Tf.Wj 3 bl ⟨#[]⟩ dS none 0 (WN ((s+n+1)%65536) (h.blG b (s+n))) u rfl HBL.symm ?_ ?_ rfl (by rw[hdS];rfl) (fun i hi=>absurd hi (by simp[WN])) (by simp[WN,Tf.lF]) (by simp[WN]) ?_
   ·rw[gB HBL];omega
   ·rw[gB HBL];omega
   show(h.blG b (s+n)).length<=_
   unfold Host.blG
   rw[bp7]
   have:=HBI.2
   omega)
  obtain⟨aB,haB⟩:=ex_ (YD ((s+n+1)%65536) (h.blG b (s+n)));obtain⟨ek,hek⟩:∃ek:Int,ek=Tf.UU (WN ((s+n+1)%65536) (h.blG b (s+n))):=⟨_,rfl⟩;rw[<-haB,<-hek]at HW5;have HAB:=Fe haB;clear haB hek hdS;go_wp2_with fail;go_quiet (fail);go_wp2_with fail;obtain⟨V,hV⟩:=ex_ (wr.drewN nq);have HV:Hid (gm wr.heap.size wr V):=Fe (by rw[hV];exact below_drewN (bn9 _ _) _);rw[<-hV];clear hV;have HK5:Hid (∀u,gm wr.heap.size wr u->u.cell? (a_ H 0)=some (.string h.image)/\u.cell? (a_ H 5)=some (Vb Vg bI)):=Fe (fun u hu=>⟨(HS.below hu).at'.cell 0,by rw[<-HSW.2.2];exact(HS.below hu).at'.cell 5⟩);clear r0 r2 r4 r5 r6 r7;go_region_held3 (fun u=>u.cell? (a_ H 0)=some (.string h.image)/\u.cell? (a_ H 5)=some (Vb Vg bI)) (first|exact HK5 _ HV.drew|exact HK5 _ HV|exact HK5 _ HB5)
   (first|(go_at_call 74;refine(HW5 _).mono ?_;rintro ee u5 ⟨rfl,hb5⟩;have HB5:Hid (gm wr.heap.size wr u5):=Fe (HV.drew.trans (hb5.mono HV.drew.size));clear hb5))
  have HS5:Hid (Bk w u5 H (h.YP n) f t ld (.slice ao n cp) n (h.bd8 b f s n)):=Fe (HS.below HB5);obtain⟨fr,hfr⟩:=ex_ ((h.YP n).bM1 b f (s+n));have HCE:Hid (∀u,(∃k v q l,Bk w u H (h.YP k) f t ld v q l)->c_ u H 4 (Vb Ve h.port)/\c_ u H 2 (Vb Vf h.next)/\c_ u w.heap.size 0 (Vb Ve f)):=Fe (fun u ⟨k,v,q,l,hu⟩=>⟨hu.at'.cell 4,hu.at'.cell 2,bn0 u _ 0 _ _ _ hu.bx⟩);have HWR:Hid (∀u,Bk w u H (h.YP n) f t ld (.slice ao n cp) n (h.bd8 b f s n)->f_ Vh 70 #[p_ H,.agg (rF h.port f aB),Vb Vf h.next,Vb Vf 167772215] u fun ee w'=>ee=.returned (.string fr)/\Bk w w' H (h.YP (n+1)) f t ld (.slice ao n cp) n (h.bd8 b f s n)):=Fe (fun u hu=>by
   refine(Zj hu.at' hu.cd hH0 hH1 h.port f h.next 167772215 aB hp hF hn (by decide) ?_).mono ?_
   ·rw[gB HAB]
    unfold YD
    rw[strSize]
    exact bI0 _ _ (by unfold Host.blG;rw[bp7];have:=HBI.2;omega)
   rintro ee w' ⟨rfl,k6,t6⟩
   rw[aw1]at k6
   refine⟨?_,hu.host hlt hH0 hH1 k6 t6⟩
   rw[hfr,gB HAB];rfl)
  have HNX:Hid (h.bd8 b f s (n+1)=h.bd8 b f s n++ [fr]):=Fe (by rw[bK9,hfr]);clear hfr HK5 HW5 HAB hsl;have HNB:Hid (n+1<=maxLen/\(n+1)*16<=140737488355328):=Fe (by have:=HN.1;obtain⟨_,_,_,e4,_,e6,_⟩:=gB HQ;unfold maxLen;omega);obtain⟨i0,hi0,hz0,hz1,hz2⟩:=ol TZ;go_wp2_with fail;refine wp_region_held_drew (S:=fun u=>c_ u H 4 (Vb Ve h.port)/\c_ u H 2 (Vb Vf h.next)/\c_ u w.heap.size 0 (Vb Ve f)) (by kernel_rfl) (HCE _ ⟨_,_,_,_,HS5.below ((bn9 _ _).drew)⟩) (fun hHeld=> ?_);refine tkH_ (i:=0) (v:=(.slice ao n cp)) rfl (by kernel_rfl) (fun _ _ _ h=>h) (bo1 ⟨by rfl,?_⟩) hHeld ?_
  ·(intro wz hSz;go_simp)
  try simp only[Act.put,bn4,bn2,bn1,bm7,bm8,bm9]
  refine tkH_ (i:=1) (v:=(p_ H)) rfl (by kernel_rfl) (fun _ _ _ h=>h) (bo1 ⟨by rfl,?_⟩) hHeld ?_
  ·(intro wz hSz;go_simp)
  try simp only[Act.put,bn4,bn2,bn1,bm7,bm8,bm9]
  refine tkH_ (i:=2) (v:=(p_ H)) rfl (by kernel_rfl) (fun _ _ _ h=>h) (bo1 ⟨by rfl,?_⟩) hHeld ?_
  ·(intro wz hSz;go_simp)
  try simp only[Act.put,bn4,bn2,bn1,bm7,bm8,bm9]
  refine tkH_ (i:=3) (v:=(p_ H)) rfl (by kernel_rfl) (fun _ _ _ h=>h) (bo1 ⟨by rfl,?_⟩) hHeld ?_
  ·(intro wz hSz;go_simp)
  try simp only[Act.put,bn4,bn2,bn1,bm7,bm8,bm9]
  refine tkH_ (i:=4) (v:=(.pointer (some (a_ H 4)))) rfl (by kernel_rfl) (fun _ _ _ h=>h) (bo1 ⟨by rfl,?_⟩) hHeld ?_
  ·(intro wz hSz;go_simp)
  try simp only[Act.put,bn4,bn2,bn1,bm7,bm8,bm9]
  refine tkH_ (i:=5) (v:=(Vb Ve h.port)) rfl (by kernel_rfl) (fun _ _ _ h=>h) (bo1 ⟨by rfl,?_⟩) hHeld ?_
  ·(intro wz hSz;go_simp)
  try simp only[Act.put,bn4,bn2,bn1,bm7,bm8,bm9]
  refine tkH_ (i:=6) (v:=(p_ w.heap.size)) rfl (by kernel_rfl) (fun _ _ _ h=>h) (bo1 ⟨by rfl,?_⟩) hHeld ?_
  ·(intro wz hSz;go_simp)
  try simp only[Act.put,bn4,bn2,bn1,bm7,bm8,bm9]
  refine tkH_ (i:=7) (v:=(Vb Ve f)) rfl (by kernel_rfl) (fun _ _ _ h=>h) (bo1 ⟨by rfl,?_⟩) hHeld ?_
  ·(intro wz hSz;go_simp)
  try simp only[Act.put,bn4,bn2,bn1,bm7,bm8,bm9]
  refine tkH_ (i:=8) (v:=(.string aB)) rfl (by kernel_rfl) (fun _ _ _ h=>h) (bo1 ⟨by rfl,?_⟩) hHeld ?_
  ·(intro wz hSz;go_simp)
  try simp only[Act.put,bn4,bn2,bn1,bm7,bm8,bm9]
  refine tkH_ (i:=9) (v:=(.agg (rF h.port f aB))) rfl (by kernel_rfl) (fun _ _ _ h=>h) (bo1 ⟨by rfl,?_⟩) hHeld ?_
  ·(intro wz hSz;go_simp)
  try simp only[Act.put,bn4,bn2,bn1,bm7,bm8,bm9]
  refine tkH_ (i:=10) (v:=(p_ H)) rfl (by kernel_rfl) (fun _ _ _ h=>h) (bo1 ⟨by rfl,?_⟩) hHeld ?_
  ·(intro wz hSz;go_simp)
  try simp only[Act.put,bn4,bn2,bn1,bm7,bm8,bm9]
  refine tkH_ (i:=11) (v:=(p_ H)) rfl (by kernel_rfl) (fun _ _ _ h=>h) (bo1 ⟨by rfl,?_⟩) hHeld ?_
  ·(intro wz hSz;go_simp)
  try simp only[Act.put,bn4,bn2,bn1,bm7,bm8,bm9]
  refine tkH_ (i:=12) (v:=(.pointer (some (a_ H 2)))) rfl (by kernel_rfl) (fun _ _ _ h=>h) (bo1 ⟨by rfl,?_⟩) hHeld ?_
  ·(intro wz hSz;go_simp)
  try simp only[Act.put,bn4,bn2,bn1,bm7,bm8,bm9]
  refine tkH_ (i:=13) (v:=(Vb Vf h.next)) rfl (by kernel_rfl) (fun _ _ _ h=>h) (bo1 ⟨by rfl,?_⟩) hHeld ?_
  ·(intro wz hSz;go_simp)
  try simp only[Act.put,bn4,bn2,bn1,bm7,bm8,bm9]
  refine wpAnyH_ready (rs:=[14]) (by kernel_rfl) (by simp) ?_;refine AllReadyH.cons rfl (fun K hK=> ?_) AllReadyH.nil;go_simp
  refine on_ (HWR _ (HS5.below ((bn9 _ _).drew))) fun u6 h6=>?_;have H6:=Fe h6;clear h6 hHeld;go_wp2_with fail;refine hK.out _ _ ?_ (fun hHeld=> ?_)
  ·exact HCE _ ⟨_,_,_,_,H6⟩
  clear hK K;try simp only[Act.put,bn4,bn2,bn1,bm7,bm8,bm9]
  refine wpAnyH_ready (rs:=[15]) (by kernel_rfl) (by simp) ?_;refine AllReadyH.cons rfl (fun K hK=> ?_) AllReadyH.nil;go_simp
  have H7:Hid (Bk w (u6.alloc (.cells #[.string fr] 9)) H (h.YP (n+1)) f t ld (.slice ao n cp) n (h.bd8 b f s n)):=Fe (H6.below b1_);clear hHeld;refine hK.out _ _ ?_ (fun hHeld=> ?_)
  ·exact HCE _ ⟨_,_,_,_,H7⟩
  clear hK K;try simp only[Act.put,bn4,bn2,bn1,bm7,bm8,bm9]
  refine wpAnyH_ready (rs:=[16]) (by kernel_rfl) (by simp) ?_;refine AllReadyH.cons rfl (fun K hK=> ?_) AllReadyH.nil;refine yT rfl (.tmp 72) (.tmp 87) 44 rfl (w.heap.size+1) 9 i0 (.string ⟨#[]⟩) 1 16 by2 hi0 hz0 hz1 hz2 rfl (by decide) (.slice ao n cp) n (Js.strs (h.bd8 b f s n)) ?_ H7.own (a_ u6.heap.size 0) 1 1 [.string fr] ?_ rfl (cell_one_new _ _ _) ?_ ?_ ?_ ?_ ?_
  ·first|rfl|simp[Act.eval]
  ·first|rfl|simp[Act.eval]
  ·intro x hx;simp at hx;subst hx;rfl
  ·exact HNB.1
  ·exact HNB.2
  ·exact bv6 (Nat.lt_of_le_of_lt (gG H6.bx) (by simp))
  intro v8 w8 hown hg;have H8:Hid (Bk w w8 H (h.YP (n+1)) f t ld v8 (n+1) (h.bd8 b f s (n+1))):=Fe (by rw[gB HNX];exact H7.push hlt hcl hown hg);obtain⟨a8,c8,hv8⟩:=Dh.ib hown;subst hv8;clear hown hg hHeld;refine hK.out _ _ ?_ (fun hHeld=> ?_)
  ·exact HCE _ ⟨_,_,_,_,H8⟩
  clear hK K;try simp only[Act.put,bn4,bn2,bn1,bm7,bm8,bm9]
  refine tkH_ (i:=17) (v:=(.slice a8 (n+1) c8)) rfl (by kernel_rfl) (fun _ _ _ h=>h) (bo1 ⟨by rfl,?_⟩) hHeld ?_
  ·(intro wz hSz;go_simp)
  try simp only[Act.put,bn4,bn2,bn1,bm7,bm8,bm9]
  refine bw0 (by kernel_rfl) ?_ _;go_wp2;go_roundg (N-n)
  case measure=>have:=HN.2.1;omega
  exact⟨n+1,i1,a8,c8,rfl,rfl,Fe ⟨hlt2,by have:=HN.2.1;omega,by have:=gB HI1;omega⟩,H8⟩
 have hnN:n=N:=by have:=HN.1;omega
 have HFIN:Hid (wr.ownsRow w.heap.size 9 1 (.slice ao N cp) N (Js.strs (h.bd8 b f s N))/\At wr H (h.YP N)/\PU w wr H):=Fe (by
  have q:=gB HS
  rw[hnN]at q
  exact⟨aC5 q.own,q.at',q.tn⟩)
 have HNN:=Fe hnN
 by_cases hwn:n=wn
 ·have g1:decide (iv<X1)=false:=by
   have:=HN.2.2;have:=gB HX1;simp;omega
  clear hwn hnN hlt2;go_wp2_with fail;go_quiet (fail);go_wp2;go_ret;refine⟨ao,cp,?_,?_,?_,?_⟩
  ·rw[<-gB HNN];rfl
  ·exact iN HFIN.1 (fun _ _=>rfl)
  ·exact HFIN.2.1
  exact Sd HFIN.2.2 (below_drewN (bn9 _ _) _)
 have g1:decide (iv<X1)=true:=by
  have:=HN.2.2;have:=gB HX1;have:=HQ.2.2.2.2.2.1;simp;omega
 have g2:decide (lo<=(h.image.size:Int))=false:=by
  have:=gB HLO
  rcases HQ.2.2.2.2.2.2.2 with e|e
  ·omega
  rw[<-hnN]at e;simp;omega
 clear hwn hnN hlt2;go_wp2_with fail;go_quiet (fail);go_wp2;go_ret;refine⟨ao,cp,?_,?_,?_,?_⟩
 ·rw[<-gB HNN];rfl
 ·exact iN HFIN.1 (fun _ _=>rfl)
 ·exact HFIN.2.1
 exact Sd HFIN.2.2 (below_drewN (bn9 _ _) _)
end Ho
namespace Ho
open Bs Js
variable{w w' u u':fV} {H:Nat} {h h':Host}
def RdL(h:Host)(f:Int)(c3 n:Nat)(ob:Bool)(l:List ByteArray)(h':Host):Prop:=(ob=true/\l=[(h.Wn c3 n).frame h.asked.port f ⟨(Tf.U7 ⟨6,0,[],[],[(VC,dg h.image.size),(Gp,dg c3),(I1,dg n)]⟩).toArray⟩ h.next 167772215]/\h'=(h.Wn c3 n).Ww)∨(ob=false/\l=(h.Wn 512 1).bd8 512 f 0 1/\h'=(h.Wn 512 1).YP 1)
def RdP(w:fV)(H:Nat)(h:Host)(f:Int)(c3 n:Nat)(ob:Bool)(ee:Ending)(w':fV):Prop:=∃ao cp l h',ee=.returned (.tuple #[.slice ao 1 cp,.bool true])/\w'.ownsRow w.heap.size 9 1 (.slice ao 1 cp) 1 (Js.strs l)/\At w' H h'/\PU w w' H/\RdL h f c3 n ob l h'
theorem bW6{i n:Nat}(h:i<1):(0+i)*512<=n:=by
 have e:i=0:=by omega
 rw[e];exact bp3 _
theorem bH7(k:At w H h)(c:NA w)(hH0:(0:Nat)≠H)(hH1:(1:Nat)≠H)(f:Int)(ld:ByteArray)(hF:0<=f/\f<=65535)(hn:0<=h.next/\h.next<=4294967295)(ob:Bool)(ho:h.opts=ob)(hi:h.image.size<=1000000)
  (fs:Tf.pO) (sa:Option Addr) (sc:Nat) (hfl:fs.length<=1000) (hfz:∀x ∈ fs,x.2.length<=1000) (hA:Tf.X9 w sa fs) (hAH:∀ad,sa=some ad->ad.block≠H) (b n:Nat) (hb:Yj 0 fs Gp=b) (hw:Yj 0 fs I1=n) (hb1:1<=b/\b<=1024) (hn1:1<=n/\n<=8) (c3:Nat) (hc3:c3=min b 300):
  f_ Vh 42 #[p_ H,.agg (rF f 69 ld),.agg (rG 1 0 ⟨#[107,101,114,110,101,108]⟩ ⟨#[]⟩ sa fs.length sc)] w fun ee w'=>RdP w H h f c3 n ob ee w':=by
 have hlt:=gG k;obtain⟨sl,hsl⟩:∃sl:Value,sl=.slice sa fs.length sc:=⟨_,rfl⟩;have hHn:H≠w.heap.size:=bo5 hlt;have hHn1:H≠w.heap.size+1:=by omega
 have r4:w.cell? (a_ H 4)=some (Vb Ve h.port):=k.cell 4;have r7:w.cell? (a_ H 7)=some (Vb Vg h.sent):=k.cell 7;have r8:w.cell? (a_ H 8)=some (Vb Vg h.last):=k.cell 8;have f4:=k.free 4;have f7:=k.free 7;have f8:=k.free 8;obtain⟨Y,hY⟩:=ex_ (((w.setCell (a_ H 4) (Vb Ve (IntKind.u16.wrap (h.port+1)))).setCell (a_ H 7) (Vb Vg 0)).setCell (a_ H 8) (Vb Vg (-1)));obtain⟨X,hX⟩:=ex_ ((Y.alloc (.cells (rF f 69 ld) 69)).alloc (.cells (rG 1 0 ⟨#[107,101,114,110,101,108]⟩ ⟨#[]⟩ sa fs.length sc) 96));have HX:Hid (Tx w X H h.asked f 69 ld 1 0 ⟨#[107,101,114,110,101,108]⟩ ⟨#[]⟩ (.slice sa fs.length sc)/\Tf.X9 X sa fs):=Fe (by
  have hz:Y.heap.size=w.heap.size:=by rw[hY];simp[World.setCell]
  have k1:=((k.set (h':={h with port:=IntKind.u16.wrap (h.port+1)}) 4 (Vb Ve (IntKind.u16.wrap (h.port+1))) rfl).set (h':={h with port:=IntKind.u16.wrap (h.port+1),sent:=0}) 7 (Vb Vg 0) rfl).set (h':=h.asked) 8 (Vb Vg (-1)) rfl
  have tn:PU w Y H:=by rw[hY];exact PU.go (PU.go aA aA) aA
  rw[<-hY]at k1
  have c1:NA Y:=c.of (tn.block _ c.lt.1 hH0) (tn.block _ c.lt.2 hH1)
  have q:Tx Y X H h.asked f 69 ld 1 0 ⟨#[107,101,114,110,101,108]⟩ ⟨#[]⟩ (.slice sa fs.length sc):=by rw[hX];exact aA2 k1 c1
  refine⟨⟨q.at',q.cd,PU.go tn q.tn,by rw[<-hz];exact q.b1,by rw[<-hz];exact q.b2⟩,?_⟩
  exact ag6 hA (PU.go tn q.tn) hAH)
 obtain⟨bI,hbI⟩:∃bI:Int,bI=(b:Int):=⟨_,rfl⟩;obtain⟨nI,hnI⟩:∃nI:Int,nI=(n:Int):=⟨_,rfl⟩;have HBI:=Fe hbI;have HNI:=Fe hnI;clear k c hA hbI hnI;go_enter func42,ntmps42;go_wp2_with fail;rw[<-hY,<-hX];clear hX hY r4 r7 r8 f4 f7 f8;go_cut [] (fun wc=>Hid (Tx w wc H (h.Wn b n) f 69 ld 1 0 ⟨#[107,101,114,110,101,108]⟩ ⟨#[]⟩ (.slice sa fs.length sc)/\Tf.X9 wc sa fs));case first=>
  obtain⟨NF,hNF⟩:∃NF:ByteArray->Int,NF=fun nm=>Yj 0 fs nm.data.toList:=⟨_,rfl⟩;have HNB:Hid (∀u (nm:ByteArray),gm X.heap.size X u->f_ Vh 72 #[.slice sa fs.length sc,.string nm] u fun e w'=>e=.returned (Vb Vg (NF nm))/\gm u.heap.size u w'):=Fe (fun u nm hu=>by
   have q:=lH sa sc fs nm.data.toList u (HX.2.below hu (bn7 _)) hfl hfz
   rw[Rd.mQ]at q
   rw[hNF]
   exact q)
  have HNF:Hid (NF ⟨#[98,108,107,115,105,122,101]⟩=b/\NF ⟨#[119,105,110,100,111,119,115,105,122,101]⟩=n):=Fe (by rw[hNF];exact⟨hb,hw⟩);clear hNF;have HS:Hid (∀u,gm X.heap.size X u->c_ u (w.heap.size+1) 4 (.slice sa fs.length sc)/\c_ u H 5 (Vb Vg h.block)/\c_ u H 6 (Vb Vg h.window)/\u.frozen? (a_ H 5)=false/\u.frozen? (a_ H 6)=false):=Fe (fun u hu=>⟨bn0 u _ 4 _ _ _ (HX.1.below hu).b2,(HX.1.below hu).at'.cell 5,(HX.1.below hu).at'.cell 6,(HX.1.below hu).at'.free 5,(HX.1.below hu).at'.free 6⟩);have HV:Hid (gm X.heap.size X X):=Fe (bn9 _ _);clear hb hw hfl hfz;go_region_held3 (fun u=>u.cell? (a_ (w.heap.size+1) 4)=some (.slice sa fs.length sc)) (first|exact(HS _ HV.drew).1|exact(HS _ HBb).1|exact(HS _ HBw).1|(go_keep))
   (first|(go_at_call 72;first|(refine(HNB _ _ HBb).mono ?_;rintro ee uw ⟨rfl,hbw⟩;have HBw:Hid (gm X.heap.size X uw):=Fe (bC0 HBb (hbw.mono HBb.size));obtain⟨d4,d5,d6,d7,d8⟩:=HS _ HBw;clear hbw)|(refine(HNB _ _ HV.drew).mono ?_;rintro ee ub ⟨rfl,hbb⟩;have HBb:Hid (gm X.heap.size X ub):=Fe (bC0 HV.drew (hbb.mono HV.drew.size));obtain⟨b4,b5,b6,b7,b8⟩:=HS _ HBb;clear hbb)))
  all_goals go_wp2
  all_goals go_meet
  all_goals exact Fe (by
   have b0:=HX.1.below HBw
   have b1:=b0.set (h':={h.asked with block:=(b:Int)}) hlt hH0 hH1 5 (Vb Vg (NF ⟨#[98,108,107,115,105,122,101]⟩)) (by rw[HNF.1];rfl)
   have b2:=b1.set (h':=h.Wn b n) hlt hH0 hH1 6 (Vb Vg (NF ⟨#[119,105,110,100,111,119,115,105,122,101]⟩)) (by rw[HNF.2];rfl)
   exact⟨b2,ag6 (HX.2.below HBw (bn7 _)) (PU.go aA aA) hAH⟩)
 rename fV=>wc;have HT:Hid (Tx w wc H (h.Wn b n) f 69 ld 1 0 ⟨#[107,101,114,110,101,108]⟩ ⟨#[]⟩ (.slice sa fs.length sc)):=Fe hcut.1;clear hcut HX;have p1:wc.cell? (a_ w.heap.size 1)=some (Vb Ve 69):=bn0 wc _ 1 _ _ _ HT.b1;have p2:wc.cell? (a_ (w.heap.size+1) 2)=some (.string ⟨#[107,101,114,110,101,108]⟩):=bn0 wc _ 2 _ _ _ HT.b2;have r3:wc.cell? (a_ H 3)=some (.bool ob):=by rw[<-ho];exact HT.at'.cell 3
 have r5:wc.cell? (a_ H 5)=some (Vb Vg bI):=by rw[gB HBI];exact HT.at'.cell 5
 have r6:wc.cell? (a_ H 6)=some (Vb Vg nI):=by rw[gB HNI];exact HT.at'.cell 6
 have f5:=HT.at'.free 5;have g5:(bI==0)=false:=by rw[gB HBI];simp;omega
 have g6:(nI==0)=false:=by rw[gB HNI];simp;omega
 have f6:=HT.at'.free 6
 cases ob with
 |false=>
  have HT2:Hid (Tx w ((wc.setCell (a_ H 5) (Vb Vg 512)).setCell (a_ H 6) (Vb Vg 1)) H (h.Wn 512 1) f 69 ld 1 0 ⟨#[107,101,114,110,101,108]⟩ ⟨#[]⟩ (.slice sa fs.length sc)):=Fe ((HT.set (h':={h.Wn b n with block:=512}) hlt hH0 hH1 5 _ rfl).set hlt hH0 hH1 6 _ rfl);have HB:=Fe (bh7 HT2.at' HT2.cd hH0 hH1 f 69 ld hF (QQ (h.port+1)) hn 512 rfl (by decide) 0 1 1 rfl (by decide) rfl (by decide) hi (by decide) (fun i hi=>bW6 hi) (bo1 rfl));obtain⟨p0,p1',p2'⟩:((wc.setCell (a_ H 5) (Vb Vg 512)).setCell (a_ H 6) (Vb Vg 1)).cell? (a_ w.heap.size 0)=some (Vb Ve f)/\((wc.setCell (a_ H 5) (Vb Vg 512)).setCell (a_ H 6) (Vb Vg 1)).cell? (a_ w.heap.size 1)=some (Vb Ve 69)/\((wc.setCell (a_ H 5) (Vb Vg 512)).setCell (a_ H 6) (Vb Vg 1)).cell? (a_ w.heap.size 2)=some (.string ld):=⟨bn0 _ _ 0 _ _ _ HT2.b1,bn0 _ _ 1 _ _ _ HT2.b1,bn0 _ _ 2 _ _ _ HT2.b1⟩;obtain⟨V,hV⟩:=ex_ ((wc.setCell (a_ H 5) (Vb Vg 512)).setCell (a_ H 6) (Vb Vg 1));rw[<-hV]at HT2 HB;clear hb hw hb1 hn1 hfz hfl HBI HNI;go_wp2_with fail;rw[<-hV];clear hV p0 p1' p2' p1 p2 r3 r5 r6 f5 f6 g5 g6 HT;refine HB.mono ?_;rintro ee u9 ⟨ao,cp,rfl,o9,k9,t9⟩;have HFF:Hid (RdP w H h f c3 n false (.returned (.tuple #[.slice ao 1 cp,.bool true])) u9):=Fe ⟨ao,cp,_,_,rfl,Yb o9 HT2.tn.size,k9,PU.go HT2.tn t9,bo3 ⟨rfl,rfl,rfl⟩⟩;clear o9 k9 t9 HB HT2;go_wp2;go_ret2;exact HFF
 |true=>
 have hmn:min bI 300=(c3:Int):=by rw[gB HBI,hc3];omega
 obtain⟨cI,hcI⟩:∃cI:Int,cI=(c3:Int):=⟨_,rfl⟩;have HCI:=Fe hcI;rw[<-hcI]at hmn;clear hcI;have HT2:Hid (Tx w (wc.setCell (a_ H 5) (Vb Vg cI)) H (h.Wn c3 n) f 69 ld 1 0 ⟨#[107,101,114,110,101,108]⟩ ⟨#[]⟩ (.slice sa fs.length sc)):=Fe (HT.set hlt hH0 hH1 5 _ (by rw[gB HCI];rfl));obtain⟨V,hV⟩:=ex_ (wc.setCell (a_ H 5) (Vb Vg cI));rw[<-hV]at HT2;go_wp2_with fail;rw[<-hV];clear hV p1 p2 r3 r5 r6 f5 f6 g5 g6 hmn HT;obtain⟨aB,haB⟩:∃aB:ByteArray,aB=⟨(Tf.U7 ⟨6,0,[],[],[(VC,dg h.image.size),(Gp,dg c3),(I1,dg n)]⟩).toArray⟩:=⟨_,rfl⟩;go_cut [8] (fun v8 wd=>v8=.string aB/\Hid (Tx w wd H (h.Wn c3 n) f 69 ld 1 0 ⟨#[107,101,114,110,101,108]⟩ ⟨#[]⟩ (.slice sa fs.length sc)));case first=>
  obtain⟨DG,hDG⟩:∃DG:Int->ByteArray,DG=fun x=>⟨(dg x.toNat).toArray⟩:=⟨_,rfl⟩;have HDG:Hid (∀(u:fV) (x:Int),0<=x/\x<=1000000->f_ Vh 75 #[Vb Vg x] u fun e w'=>e=.returned (.string (DG x))/\gm u.heap.size u w'):=Fe (fun u x hx=>by
   have q:=ai5 x.toNat (by omega) u
   rw[show((x.toNat:Nat):Int)=x by omega]at q
   rw[hDG];exact q)
  obtain⟨ek,hek⟩:∃ek:Int,ek=Tf.UU ⟨6,0,[],[],[(VC,dg h.image.size),(Gp,dg c3),(I1,dg n)]⟩:=⟨_,rfl⟩;have HWT:Hid (∀(u:fV) (g:Nat),u.heap[g]?=some (.cells #[.string ⟨#[116,115,105,122,101]⟩,.string (DG h.image.size),.string ⟨#[98,108,107,115,105,122,101]⟩,.string (DG cI),.string ⟨#[119,105,110,100,111,119,115,105,122,101]⟩,.string (DG nI)] 146 (0,0))->f_ Vh 74 #[.agg (rG 6 0 ⟨#[]⟩ ⟨#[]⟩ (some (a_ g 0)) 3 3)] u fun e w'=>e=.returned (.tuple #[.string aB,Vb Vg ek])/\gm u.heap.size u w'):=Fe (fun u g hg=>by
   rw[haB,hek]
   have l1:=ae5 h.image.size
   have l2:=ae5 c3
   have l3:=ae5 n
   refine Tf.Wj 6 0 ⟨#[]⟩ ⟨#[]⟩ (some (a_ g 0)) 3 ⟨6,0,[],[],[(VC,dg h.image.size),(Gp,dg c3),(I1,dg n)]⟩ u rfl rfl (by decide) (by decide) rfl rfl ?_ ?_ (by simp) (by simp)
   ·refine ab0 u g 146 VC _ Gp _ I1 _ ?_
    rw[hg,hDG,gB HCI,gB HNI]
    rfl
   simp[Tf.lF,VC,Gp,I1];have:=hc3;omega)
  have HCE:Hid (∀u,gm V.heap.size V u->c_ u H 0 (.string h.image)/\c_ u H 5 (Vb Vg cI)/\c_ u H 6 (Vb Vg nI)):=Fe (fun u hu=>⟨(HT2.below hu).at'.cell 0,by rw[gB HCI];exact(HT2.below hu).at'.cell 5,by rw[gB HNI];exact(HT2.below hu).at'.cell 6⟩);have HV:Hid (gm V.heap.size V V):=Fe (bn9 _ _);have hbB:0<=cI/\cI<=1000000:=by rw[gB HCI,hc3];omega
  have hnB:0<=nI/\nI<=1000000:=by rw[gB HNI];omega
  have hiB:0<=(h.image.size:Int)/\(h.image.size:Int)<=1000000:=by omega
  clear hDG hek haB hb hw;go_region_held3 (fun u=>c_ u H 0 (.string h.image)/\c_ u H 5 (Vb Vg cI)/\c_ u H 6 (Vb Vg nI)) (first|exact HCE _ HV.drew|exact HCE _ HD5|exact HCE _ (HD3.alloc HD3.size _)|exact HCE _ HD3|exact HCE _ HD2|exact HCE _ HD1)
   (first|(go_at_call 75;refine(HDG _ _ (by first|exact hiB|exact hbB|exact hnB)).mono ?_;rintro ee ud ⟨rfl,hbd⟩;first|(have HD3:Hid (gm V.heap.size V ud):=Fe (HD2.trans (hbd.mono HD2.size));clear hbd)|(have HD2:Hid (gm V.heap.size V ud):=Fe (HD1.trans (hbd.mono HD1.size));clear hbd)|(have HD1:Hid (gm V.heap.size V ud):=Fe (HV.drew.trans (hbd.mono HV.drew.size));clear hbd))|(go_at_call 74;refine(HWT _ _ (bn3 _ _)).mono ?_;rintro ee ue ⟨rfl,hbe⟩;have HD5:Hid (gm V.heap.size V ue):=Fe ((HD3.alloc HD3.size _).trans (hbe.mono (HD3.alloc HD3.size _).size));clear hbe))
  all_goals go_wp2
  all_goals go_meet
  all_goals exact⟨rfl,Fe (HT2.below HD5)⟩
 rename fV=>wd;obtain⟨rfl,HT3⟩:=hcut;clear HT2;obtain⟨fr,hfr⟩:=ex_ ((h.Wn c3 n).frame h.asked.port f aB h.next 167772215);have hpb:0<=h.asked.port/\h.asked.port<=65535:=QQ (h.port+1);obtain⟨pt,hpt⟩:=ex_ h.asked.port;have HWR:Hid (∀u,Tx w u H (h.Wn c3 n) f 69 ld 1 0 ⟨#[107,101,114,110,101,108]⟩ ⟨#[]⟩ (.slice sa fs.length sc)->f_ Vh 70 #[p_ H,.agg (rF pt f aB),Vb Vf h.next,Vb Vf 167772215] u fun ee w'=>ee=.returned (.string fr)/\Tx w w' H (h.Wn c3 n).Ww f 69 ld 1 0 ⟨#[107,101,114,110,101,108]⟩ ⟨#[]⟩ (.slice sa fs.length sc)):=Fe (fun u hu=>by
  rw[hpt]
  refine(Zj hu.at' hu.cd hH0 hH1 h.asked.port f h.next 167772215 aB hpb hF hn (by decide) ?_).mono ?_
  ·rw[haB,strSize]
   exact aE2 _
  rintro ee w' ⟨rfl,k6,t6⟩
  exact⟨by rw[hfr],hu.host hlt hH0 hH1 k6 t6⟩)
 have HCE:Hid (∀u h',h'.port=h.asked.port->h'.next=h.next->Tx w u H h' f 69 ld 1 0 ⟨#[107,101,114,110,101,108]⟩ ⟨#[]⟩ (.slice sa fs.length sc)->c_ u H 4 (Vb Ve pt)/\c_ u H 2 (Vb Vf h.next)/\c_ u w.heap.size 0 (Vb Ve f)):=Fe (fun u h' e1 e2 hu=>⟨by rw[hpt,<-e1];exact hu.at'.cell 4,by rw[<-e2];exact hu.at'.cell 2,bn0 u _ 0 _ _ _ hu.b1⟩);have HFR:=Fe hfr;have HAB:=Fe haB;clear hfr haB hpt hpb;go_wp2_with fail;go_region_held3 (fun u=>c_ u H 4 (Vb Ve pt)/\c_ u H 2 (Vb Vf h.next)/\c_ u w.heap.size 0 (Vb Ve f)) (first|exact HCE _ (h.Wn c3 n) rfl rfl (HT3.below ((bn9 _ _).drew))|exact HCE _ (h.Wn c3 n).Ww rfl rfl (H6.below b1_)|exact HCE _ (h.Wn c3 n).Ww rfl rfl H6)
  (first|(go_at_call 70;refine(HWR _ (HT3.below ((bn9 _ _).drew))).mono ?_;rintro ee u6 ⟨rfl,h6⟩;have H6:=Fe h6;clear h6))
 go_wp2;go_ret2;have q:=H6.below (u':=u6.alloc (.cells #[.string fr] 9)) b1_;refine⟨_,_,_,_,rfl,?_,q.at',q.tn,bo1 ⟨rfl,rfl,rfl⟩⟩;rw[<-gB HAB,<-gB HFR];exact Dm u6 fr H6.tn.size
end Ho
namespace Ho
open Bs Js
variable{w w' u u':fV} {H:Nat} {h h':Host}
variable{f t op bl:Int} {ld ts ds:ByteArray} {sl:Value}
theorem bK2(k:At w H h)(c:NA w)(hH0:(0:Nat)≠H)(hH1:(1:Nat)≠H)(f:Int)(ld:ByteArray)(hF:0<=f/\f<=65535)(hp:0<=h.port/\h.port<=65535)(hn:0<=h.next/\h.next<=4294967295)(b:Nat)(hb:h.block=b)(hb0:b<=1024)(s s' wn N j:Nat)(hs:h.sent=s)(hsz:s+10<=1000000)(hw:h.window=wn)(hwz:wn<=8)(hi:h.image.size<=1000000)
  (bl:Int) (ts ds:ByteArray) (sl:Value) (hla:h.last≠bl∨h.whn≠h.now) (hjb:(j<=wn/\s'=s+j/\(((s+j)%65536:Nat):Int)=bl)∨(j=wn+1/\s'=s)) (hbl:0<=bl/\bl<=65535) (hji:∀i,i<j->(((s+i)%65536:Nat):Int)≠bl)
  (hN:N<=wn) (hN1:∀i,i<N->(s'+i)*b<=h.image.size) (hN2:N=wn∨h.image.size<(s'+N)*b):
  f_ Vh 42 #[p_ H,.agg (rF f h.port ld),.agg #[Vb Ve 4,Vb Ve bl,.string ts,.string ds,sl]] w fun ee w'=>∃ao cp,ee=.returned (.tuple #[.slice ao N cp,.bool true])/\w'.ownsRow w.heap.size 9 1 (.slice ao N cp) N (Js.strs ((h.Wv bl (s':Nat)).bd8 b f s' N))/\At w' H ((h.Wv bl (s':Nat)).YP N)/\PU w w' H:=by
 have hlt:=gG k;obtain⟨X,hX⟩:=ex_ ((w.alloc (.cells (rF f h.port ld) 69)).alloc (.cells #[Vb Ve 4,Vb Ve bl,.string ts,.string ds,sl] 96));have HX:Hid (Tx w X H h f h.port ld 4 bl ts ds sl):=Fe (by rw[hX];exact aA2 k c);obtain⟨wI,hwI⟩:∃wI:Int,wI=h.window:=⟨_,rfl⟩;obtain⟨sI,hsI⟩:∃sI:Int,sI=h.sent:=⟨_,rfl⟩;have HC:Hid (∀u h',Tx w u H h' f h.port ld 4 bl ts ds sl->c_ u w.heap.size 0 (Vb Ve f)/\c_ u w.heap.size 1 (Vb Ve h.port)/\c_ u w.heap.size 2 (.string ld)/\c_ u (w.heap.size+1) 0 (Vb Ve 4)/\c_ u (w.heap.size+1) 1 (Vb Ve bl)):=Fe (fun u h' b=>⟨bn0 u _ 0 _ _ _ b.b1,bn0 u _ 1 _ _ _ b.b1,bn0 u _ 2 _ _ _ b.b1,bn0 u _ 0 _ _ _ b.b2,bn0 u _ 1 _ _ _ b.b2⟩);obtain⟨q0,q1,q2,q3,q4⟩:=HC X h HX;have r4:X.cell? (a_ H 4)=some (Vb Ve h.port):=HX.at'.cell 4;have r8:X.cell? (a_ H 8)=some (Vb Vg h.last):=HX.at'.cell 8;have r9:X.cell? (a_ H 9)=some (Vb Vg h.whn):=HX.at'.cell 9;have r10:X.cell? (a_ H 10)=some (Vb Vg h.now):=HX.at'.cell 10;have r6:X.cell? (a_ H 6)=some (Vb Vg wI):=by rw[hwI];exact HX.at'.cell 6
 have f8:=HX.at'.free 8;have f9:=HX.at'.free 9;have hblb:0<=bl/\bl<=65535:=hbl;have g0:(h.last==bl)=false∨(h.last==bl)=true/\(h.whn==h.now)=false:=by
  by_cases e:h.last=bl
  ·exact bo3 ⟨by simpa using e,by simpa using hla.resolve_left (fun q=>q e)⟩
  exact bo1 (by simpa using e)
 have HW1:Hid (wrap64 (wI+1)=(wn:Int)+1):=Fe (by
  rw[hwI,hw]
  unfold wrap64
  omega)
 have HWN:Hid (wn<=8):=Fe hwz;have hsb:0<=sI/\sI<=1000000:=by rw[hsI,hs];omega
 have HQ:Hid (sI=s/\wI=wn/\h.sent=sI):=Fe ⟨hsI.trans hs,hwI.trans hw,hsI.symm⟩;have HR:Hid ((∀i,i<j->(((s+i)%65536:Nat):Int)≠bl)/\((j<=wn/\s'=s+j/\(((s+j)%65536:Nat):Int)=bl)∨(j=wn+1/\s'=s))/\j<=wn+1/\s+10<=1000000):=Fe ⟨hji,hjb,by omega,hsz⟩;have HS':Hid (s'<=1000000):=Fe (by omega);have HB:Hid (∀(u:fV) (h2:Host),At u H h2->NA u->h2=h.Wv bl (s':Nat)->f_ Vh 73 #[p_ H,.agg (rF f h.port ld)] u fun ee w'=>∃ao cp,ee=.returned (.slice ao N cp)/\w'.ownsRow u.heap.size 9 1 (.slice ao N cp) N (Js.strs ((h.Wv bl (s':Nat)).bd8 b f s' N))/\At w' H ((h.Wv bl (s':Nat)).YP N)/\PU u w' H):=Fe (fun u h2 ku cu e=>by
  subst e
  exact bh7 ku cu hH0 hH1 f h.port ld hF hp hn b hb hb0 s' wn N rfl HS' hw hwz hi hN hN1 hN2)
 clear hla hjb hji hN hN1 hN2 hs hw hsz hwz hi hwI hsI hb hb0 hbl;clear k c
 rcases g0 with g1|⟨g1,g2⟩
 all_goals
  go_enter func42,ntmps42;go_wp2_with fail;rw[<-hX];clear hX;go_quiet (fail);have HS0:Hid (Tx w (((X.drewN nq).setCell (a_ H 8) (Vb Vg bl)).setCell (a_ H 9) (Vb Vg h.now)) H {h with last:=bl,whn:=h.now} f h.port ld 4 bl ts ds sl):=Fe (by
   have b0:=HX.below (below_drewN (bn9 _ _) nq)
   have b1:=b0.set (h':={h with last:=bl}) hlt hH0 hH1 8 (Vb Vg bl) rfl
   exact b1.set hlt hH0 hH1 9 (Vb Vg h.now) rfl)
  go_wp2_with fail;generalize(((X.drewN nq).setCell (a_ H 8) (Vb Vg bl)).setCell (a_ H 9) (Vb Vg h.now))=W0 at HS0 ⊢;clear q0 q1 q2 q3 q4 r4 r6 r8 r9 r10 f8 f9 g1 HX;go_loopg [172] (j+1) (fun gk i wr=>∃(n:Nat) (iv:Int),i=Vb Vg iv/\Hid (n<=j/\gk+n=j+1/\iv=(n:Int))/\Hid (Tx w wr H {h with last:=bl,whn:=h.now} f h.port ld 4 bl ts ds sl))
  case atStart=>exact⟨0,0,rfl,Fe ⟨bp3 _,rfl,rfl⟩,HS0⟩
  obtain⟨n,iv,rfl,HN,HS⟩:=hrel;clear HS0;obtain⟨q0,q1,q2,q3,q4⟩:=HC wr _ HS;have r7:wr.cell? (a_ H 7)=some (Vb Vg sI):=by rw[<-HQ.2.2];exact HS.at'.cell 7
  have f7:=HS.at'.free 7;have hivb:0<=iv/\iv<=9:=by
   have:=HN.1;have:=HN.2.2;have:=HR.2.2.1;have:=gB HWN;omega
  obtain⟨sv,hsv,HSV⟩:∃sv:Int,IntKind.i64.wrap (sI+iv)=sv/\Hid (sv=(s:Int)+n):=⟨_,rfl,Fe (by
   rw[HQ.1,HN.2.2]
   have:=HQ.1
   have:=HN.2.2
   exact az7 _ (by omega))⟩
  obtain⟨md,hmd,HMD⟩:∃md:Int,sv.tmod 65536=md/\Hid (md=(((s+n)%65536:Nat):Int)):=⟨_,rfl,Fe (by
   rw[bz4 (by have:=gB HSV;omega),gB HSV]
   omega)⟩
  by_cases hnj:n<j
  ·have hlt3:iv<wrap64 (wI+1):=by
    have:=HN.2.2;have:=HR.2.2.1;have:=gB HW1;omega
   have g1:(md==bl)=false:=by
    rw[gB HMD];simpa using HR.1 n hnj
   go_wp2_with fail;go_quiet (fail);go_wp2;go_roundg (j-n)
   case measure=>have:=HN.2.1;omega
   exact⟨n+1,iv+1,by go_num,Fe ⟨hnj,by have:=HN.2.1;omega,by have:=HN.2.2;omega⟩,Fe (HS.below (below_drewN (bn9 _ _) _))⟩
  have hnj2:n=j:=by have:=HN.1;omega
  rcases HR.2.1 with⟨y1,y2,y3⟩|⟨y1,y2⟩
  case inr=>
   have hlt3: ¬iv<wrap64 (wI+1):=by
    have:=HN.2.2;have:=gB HW1;omega
   have HS3:Hid (Tx w wr H (h.Wv bl (s':Nat)) f h.port ld 4 bl ts ds sl):=Fe (by
    have e:h.Wv bl (s':Nat)={h with last:=bl,whn:=h.now}:=by
     unfold Host.Wv
     rw[y2,<-HQ.1,<-HQ.2.2]
    rw[e]
    exact HS)
   have HCL:=Fe (HB _ _ HS3.at' HS3.cd rfl);clear hnj hnj2 y1 y2 r7 f7 hsv hmd HSV HMD;go_wp2_with fail;refine HCL.mono ?_;rintro ee u9 ⟨ao,cp,rfl,o9,k9,t9⟩;have HF:Hid (u9.ownsRow w.heap.size 9 1 (.slice ao N cp) N (Js.strs ((h.Wv bl (s':Nat)).bd8 b f s' N))/\At u9 H ((h.Wv bl (s':Nat)).YP N)/\PU w u9 H):=Fe ⟨Yb o9 HS3.tn.size,k9,(HS3.host hlt hH0 hH1 k9 t9).tn⟩;clear o9 k9 t9 HCL HS3;go_wp2;go_ret2;exact⟨ao,cp,rfl,HF⟩
  have hlt3:iv<wrap64 (wI+1):=by
   have:=HN.2.2;have:=gB HW1;omega
  have g1:(md==bl)=true:=by
   rw[gB HMD,hnj2];simpa using y3
  have HS2:Hid (∀nq,Tx w ((wr.drewN nq).setCell (a_ H 7) (Vb Vg sv)) H (h.Wv bl (s':Nat)) f h.port ld 4 bl ts ds sl):=Fe (fun nq=>by
   have b0:=HS.below (below_drewN (bn9 _ _) nq)
   refine b0.set hlt hH0 hH1 7 _ ?_
   rw[gB HSV,hnj2,y2]
   rfl)
  clear hnj hnj2 y1 y2 y3;go_wp2_with fail;go_quiet (fail);have HS3:=Fe (HS2 nq);have HCL:=Fe (HB _ _ HS3.at' HS3.cd rfl);obtain⟨p0,p1,p2,p3,p4⟩:=HC _ _ HS3;go_wp2_with fail;refine HCL.mono ?_;rintro ee u9 ⟨ao,cp,rfl,o9,k9,t9⟩;have HF:Hid (u9.ownsRow w.heap.size 9 1 (.slice ao N cp) N (Js.strs ((h.Wv bl (s':Nat)).bd8 b f s' N))/\At u9 H ((h.Wv bl (s':Nat)).YP N)/\PU w u9 H):=Fe ⟨Yb o9 HS3.tn.size,k9,(HS3.host hlt hH0 hH1 k9 t9).tn⟩;clear o9 k9 t9 HCL HS3 HS2;go_wp2;go_ret2;exact⟨ao,cp,rfl,HF⟩
theorem bL6(k:At w H h)(c:NA w)(f:Int)(ld:ByteArray)(bl:Int)(ts ds:ByteArray)(sl:Value)(h1:h.last=bl)(h2:h.whn=h.now)(hbl:0<=bl/\bl<=65535):
  f_ Vh 42 #[p_ H,.agg (rF f h.port ld),.agg #[Vb Ve 4,Vb Ve bl,.string ts,.string ds,sl]] w fun ee w'=>ee=.returned (.tuple #[.slice none 0 0,.bool true])/\At w' H h/\PU w w' H:=by
 have hlt:=gG k;obtain⟨X,hX⟩:=ex_ ((w.alloc (.cells (rF f h.port ld) 69)).alloc (.cells #[Vb Ve 4,Vb Ve bl,.string ts,.string ds,sl] 96));have HX:Hid (Tx w X H h f h.port ld 4 bl ts ds sl):=Fe (by rw[hX];exact aA2 k c);have q0:=bn0 X _ 0 _ _ _ HX.b2;have q1:X.cell? (a_ w.heap.size 1)=some (Vb Ve h.port):=bn0 X _ 1 _ _ _ HX.b1;have q3:X.cell? (a_ (w.heap.size+1) 0)=some (Vb Ve 4):=bn0 X _ 0 _ _ _ HX.b2;have q4:X.cell? (a_ (w.heap.size+1) 1)=some (Vb Ve bl):=bn0 X _ 1 _ _ _ HX.b2;have r4:X.cell? (a_ H 4)=some (Vb Ve h.port):=HX.at'.cell 4;have r8:X.cell? (a_ H 8)=some (Vb Vg h.last):=HX.at'.cell 8;have r9:X.cell? (a_ H 9)=some (Vb Vg h.whn):=HX.at'.cell 9;have r10:X.cell? (a_ H 10)=some (Vb Vg h.now):=HX.at'.cell 10;have g1:(h.last==bl)=true:=by simpa using h1
 have g2:(h.whn==h.now)=true:=by simpa using h2
 clear q0 k c h1 h2;go_enter func42,ntmps42;go_wp2_with fail;rw[<-hX];clear hX;go_quiet (fail);go_wp2;go_ret2;have q:=HX.below (below_drewN (bn9 _ _) nq);exact⟨rfl,q.at',q.tn⟩
end Ho
namespace Ho
open Bs Js
variable{w0 w w' u:fV} {Q B H G:Nat} {m m':Mc} {h h':Host} {K:Nat→Nat} {I:Nat→Mc→Host→Lz→Int→Prop} {J:Nat→Nat→List ByteArray→Mc→Host→Lz→Int→Prop} {A:Nat→Nat→List ByteArray→Mc→Host→Lz→Int→List ByteArray→Prop}
theorem Ou.cell{b0:Nat}{ao:Option Addr}{n cp:Nat}{q:List ByteArray}(r:Ou b0 w B m (.slice ao n cp) q){i:Nat}(hi:i<q.length):∃g o,ao=some (a_ g o)/\w.cell? (a_ g (o+i))=some (.string q[i]):=by
 rcases r with⟨_,r⟩|⟨g,off,cap,cur,h1,h2,h3,h4,h5,h6,h7⟩
 ·rw[r]at hi;exact absurd hi (by simp)
 injection h1 with e1 _ _
 exact⟨g,off,e1,by rw[bn0 _ _ (off+i) _ _ _ h4];exact h7 i hi⟩
theorem bX1{T t:Nat}(h:t<T)(h2:T<=20000):(t:Int)<(20000:Int):=by omega
theorem bU0{T t g:Nat}(h1:g+t=T+1)(h:t<T):T-t<g/\T-t+(t+1)=T+1:=by omega
theorem bW7{n:Int}{t:Nat}(h:0<=n/\n<=100000*(t:Int)):0<=n/\n+10*((10000:Nat):Int)<=100000*((t:Int)+1):=by omega
theorem bV6{n:Int}{t k T:Nat}(h:0<=n/\n+10*(k:Int)<=100000*((t:Int)+1))(ht:t<T)(hT:T<=20000):0<=n/\n<=4000000000:=by omega
theorem bV8{n:Int}{t k:Nat}(h:0<=n/\n+10*(k:Int)<=100000*((t:Int)+1)):0<=n/\n<=100000*((t+1:Nat):Int):=by omega
theorem bW1{k k1 k2 i n2 g:Nat}(hg:g=k+1)(hki:k1+i=k)(hi: ¬i<n2)(h0: ¬n2=0)(h2:k2<=k1):k2+1<g:=by omega
theorem bV5{n:Int}{t k k':Nat}(h:0<=n/\n+10*(k:Int)<=100000*((t:Int)+1))(hk:k'<=k):0<=n/\n+10*(k':Int)<=100000*((t:Int)+1):=by omega
theorem bj0{i n2 g:Nat}(h:g+i=n2+1)(hi:i<n2):n2-i<g/\n2-i+(i+1)=n2+1:=by omega
theorem bT7{n:Int}{t k k' l:Nat}(h:0<=n/\n+10*(k:Int)<=100000*((t:Int)+1))(hk:k=k'+1)(hl:l<=8):0<=n+1/\n+1+(l:Int)+10*(k':Int)<=100000*((t:Int)+1):=by omega
theorem bV4{k k1 k' i:Nat}(hki:k1+i=k)(hk:k1=k'+1):k'+(i+1)=k:=by omega
theorem bX2{k k1 k2 i:Nat}(h2:k2<=k1)(hki:k1+i=k)(hk:k<=10000):k2<=10000:=by omega
theorem n_w{i k k1:Nat}(h:k1+i=k)(hk:k<=10000):wrap64 ((i:Int)+1)=((i+1:Nat):Int):=by rw[BL _ (by omega)];omega
theorem bX3{i l:Nat}(h:i<l)(hk:l<=8):wrap64 ((i:Int)+1)=((i+1:Nat):Int):=by rw[BL _ (by omega)];omega
theorem bX4{n:Int}{t k l i:Nat}(h:0<=n/\n+((l-i:Nat):Int)+10*(k:Int)<=100000*((t:Int)+1))(hi:i<l):0<=n+1/\n+1+((l-(i+1):Nat):Int)+10*(k:Int)<=100000*((t:Int)+1):=by omega
theorem bW5{n:Int}{t k l i T:Nat}(h:0<=n/\n+((l-i:Nat):Int)+10*(k:Int)<=100000*((t:Int)+1))(ht:t<T)(hT:T<=20000):0<=n/\n<=4000000000:=by omega
theorem bW3{n:Int}{t k l i:Nat}(h:0<=n/\n+((l-i:Nat):Int)+10*(k:Int)<=100000*((t:Int)+1)):0<=n/\n+10*(k:Int)<=100000*((t:Int)+1):=by omega
theorem drop_at{α:Type}{q:List α}{i:Nat}(hi:i<q.length):q.drop i=q[i]::q.drop (i+1):=br9 hi
theorem bX0{n:Nat}(h: ¬n=0):(0:Int)<(n:Int):=by omega
theorem bS8{tw:Int}(h:0<=tw/\tw<=6)(h0: ¬tw=0):0<tw:=by omega
theorem bU3{k:Int}(h:1<=k): ¬k<1:=by omega
theorem bH4{T:Nat}(hrun:bU7 K T I J A)(hR:∀(u:fV) (Q B H:Nat) (m:Mc) (h:Host),Al w0 u Q B H m h->Tk K u (iq B m))(hC:∀u,gm w0.heap.size w0 u->NA u)(hal:Al w0 w Q B H m h)(la:Option Addr)(nl cl:Nat)(hls:∀u,gm w0.heap.size w0 u->Los u (.slice la nl cl))(tw:Int)(htw:0<=tw/\tw<=6)(hT:T<=20000)(hT0:0<T)(hI:I 0 m h (lk m) 0):
  f_ Vh 11 #[p_ Q,p_ H,.slice la nl cl,Vb Vg tw,Vb Vg 20000] w fun ee w'=>ee=.returned (.bool true)/\∃G n z lo mz hz k t,Ab w0 w' Q B H G (.slice la nl cl) mz hz n z lo/\J k t [] mz hz z lo/\mz.gq=[]/\mz.phase=3:=by
 have HRUN:=Fe hrun;have HRR:=Fe hR;have HCC:=Fe hC;have HLS:=Fe hls;have HAL:=Fe hal;have HII:=Fe hI;have HL:=Fe (DC hal.bx);clear hrun hR hC hls hal hI;go_enter func11,ntmps11;go_wp2_with fail;refine on_ HL fun u1 hb1=>?_;obtain⟨G,hGe⟩:=ex_ u1.heap.size;have HA0:Hid (Ab w0 (u1.alloc (.cells #[.slice la nl cl,Vb Vg 0,Vb Vg 0,Vb Vg m.now,Vb Vg m.st,Vb Vg m.phase,Vb Vf m.addr,Vb Vg m.boots,Vb Vg m.ql.length,Vb Vg m.lost,Vb Vg m.cached] 81)) Q B H G (.slice la nl cl) m h 0 (lk m) 0/\I 0 m h (lk m) 0):=Fe (by
  have a1:=HAL.below hb1
  have a2:=a1.below ((bn9 _ _).alloc (bn7 _) (.cells #[.slice la nl cl,Vb Vg 0,Vb Vg 0,Vb Vg m.now,Vb Vg m.st,Vb Vg m.phase,Vb Vf m.addr,Vb Vg m.boots,Vb Vg m.ql.length,Vb Vg m.lost,Vb Vg m.cached] 81))
  exact⟨⟨a2,⟨_,_,_,_,by rw[hGe];exact bn3 u1 _⟩,by rw[hGe];exact a1.bl.size,HLS⟩,HII⟩)
 clear HL hb1 HAL HII;go_wp2_with fail;rw[<-hGe];generalize u1.alloc (.cells #[.slice la nl cl,Vb Vg 0,Vb Vg 0,Vb Vg m.now,Vb Vg m.st,Vb Vg m.phase,Vb Vf m.addr,Vb Vg m.boots,Vb Vg m.ql.length,Vb Vg m.lost,Vb Vg m.cached] 81)=W0 at HA0 ⊢;clear hGe;go_loopg [27] (T+1) (fun gk i wr=>∃t:Nat,t<T/\gk+t=T+1/\i=Vb Vg t/\Hid (∃m h n z lo,(0<=n/\n<=100000*(t:Int))/\Ab w0 wr Q B H G (.slice la nl cl) m h n z lo/\I t m h z lo))
 case atStart=>exact⟨0,hT0,rfl,rfl,Fe ⟨m,h,0,_,0,⟨ah _,by simp⟩,HA0.1,HA0.2⟩⟩
 obtain⟨t,htT,hgk,rfl,HAt⟩:=hrel;clear HA0;obtain⟨m1,h1,n1,z1,lo1,hn1,a1,i1⟩:=gB HAt;have hlt:=bX1 htT hT;have c10:wr.cell? (a_ H 10)=some (Vb Vg h1.now):=a1.al.ho.cell 10;have f10:=a1.al.ho.free 10;have HA1:Hid (Ab w0 (wr.setCell (a_ H 10) (Vb Vg ((t:Int)+1))) Q B H G (.slice la nl cl) m1 {h1 with now:=(t:Int)+1} n1 z1 lo1):=Fe (a1.host aA (a1.al.ho.set 10 _ rfl));have HT1:=Fe (HRUN.tick t m1 h1 z1 lo1 htT i1);have HN1:=Fe hn1;clear a1 i1 HAt hn1;go_wp2_with fail;refine on_ (HT1 _ Q B HA1.al.bx (HRR _ _ _ _ _ _ HA1.al)) ?_;rintro u2 ⟨m2,j2,b2⟩;obtain⟨h2,hh2⟩:∃h2:Host,h2={h1 with now:=(t:Int)+1}:=⟨_,rfl⟩;rw[<-hh2]at j2 HA1;clear hh2;have HA2:=Fe (HA1.af6 b2);have HJ2:=Fe j2;have HTK:=Fe (Z4 HA2.al.bx);obtain⟨n2,hn2⟩:=ex_ m2.gq.length;have HN2:=Fe hn2;rw[<-hn2]at HTK;clear b2 HA1 HT1 c10 f10 j2 hn2;go_wp2_with fail;refine HTK.mono ?_;rintro ee u3 ⟨ao3,cp3,rfl,ho3,b3⟩;have HS3:Hid (∃m h q n z lo,n2=q.length/\(0<=n/\n+10*((10000:Nat):Int)<=100000*((t:Int)+1))/\J 10000 t q m h z lo/\Ab w0 u3 Q B H G (.slice la nl cl) m h n z lo/\Ou w0.heap.size u3 B m (.slice ao3 n2 cp3) q/\(q=[]->m.gq=[])):=Fe ⟨m2.taken,h2,m2.gq,n1,z1,lo1,HN2,bW7 HN1,HJ2,HA2.af6 b3,Ou.own HN2 HA2.al.bl.size ho3 (fun j hj hf=>bu3 _ (bo9 (HA2.al.bx.mx.ik ((Q_ m2 m2.gq.length j).1 hf)) hj)),fun _=>Xi m2⟩;clear ho3 b3 HTK HJ2 HN2 HA2 HN1;go_wp2;go_loopg [13] 10001 (fun gk v wr=>∃(k n2:Nat) (ao:Option Addr) (cp:Nat),gk=k+1/\k<=10000/\v=.slice ao n2 cp/\Hid (∃m h q n z lo,n2=q.length/\(0<=n/\n+10*(k:Int)<=100000*((t:Int)+1))/\J k t q m h z lo/\Ab w0 wr Q B H G (.slice la nl cl) m h n z lo/\Ou w0.heap.size wr B m (.slice ao n2 cp) q/\(q=[]->m.gq=[])))
 case atStart=>exact⟨10000,n2,ao3,cp3,rfl,bn7 _,rfl,HS3⟩
 obtain⟨k,n2,ao,cp,hk,hk5,rfl,HS⟩:=hrel;clear HS3;rename fV=>wq
 by_cases hn0:n2=0
 case pos=>
  obtain⟨m4,h4,q,n4,z4,lo4,hq,hn4,j4,a4,o4,hg4⟩:=gB HS;have eq0:q=[]:=bB1 (hq.symm.trans hn0);subst eq0;subst hn0;have HLK:=Fe (DC a4.al.bx);have HA4:=Fe a4;have HG4:=Fe (hg4 rfl);have HJ4:=Fe j4;have HN4:=Fe (bV8 hn4);have HD:=Fe (HRUN.done k t m4 h4 z4 lo4 j4 (hg4 rfl));clear HS j4 a4 o4 hg4 hq hn4;have hfl:=fun u=>ao5 m4.now m4.st m4.phase m4.addr m4.boots m4.ql.length m4.lost m4.cached u
  rcases gB HD with hp|⟨hp3,hp4,ht1,i4⟩
  ·have p3:=Ld hp
   have HP:=Fe hp;clear hp HD;go_wp2_with fail;refine on_ HLK fun u4 hb4=>?_;have HA5:=Fe (HA4.below hb4);clear HLK HA4 hb4;go_wp2;go_ret;exact⟨rfl,G,n4,z4,lo4,m4,h4,k,t,HA5,HJ4,HG4,HP⟩
  have p3:=Bd hp3;have p4:=Bd hp4;have HI4:=Fe i4;clear hp3 hp4 HD i4;go_wp2_with fail;refine on_ HLK fun u4 hb4=>?_;have HA5:=Fe (HA4.below hb4);clear HLK HA4 hb4;go_wp2;go_roundg (T-t)
  case measure=>exact(bU0 hgk htT).1
  exact⟨t+1,ht1,(bU0 hgk htT).2,rfl,Fe ⟨m4,h4,n4,z4,lo4,HN4,HA5,HI4⟩⟩
 have hnp:=bX0 hn0;have hnq:=yg hn0;have HS5:Hid (∃m h q n z lo,n2=q.length/\(0<=n/\n+10*(k:Int)<=100000*((t:Int)+1))/\J k t (q.drop 0) m h z lo/\Ab w0 wq Q B H G (.slice la nl cl) m h n z lo/\Ou w0.heap.size wq B m (.slice ao n2 cp) q):=Fe (by
  obtain⟨m4,h4,q,n4,z4,lo4,hq,hn4,j4,a4,o4,_⟩:=gB HS
  exact⟨m4,h4,q,n4,z4,lo4,hq,hn4,j4,a4,o4⟩)
 have HN0:=Fe hn0;clear HS hn0;go_wp2;clear hnp hnq;go_loopg [49] (n2+1) (fun gk v wr=>∃(i k':Nat),v=Vb Vg i/\i<=n2/\gk+i=n2+1/\k'+i=k/\Hid (∃m h q n z lo,n2=q.length/\(0<=n/\n+10*(k':Int)<=100000*((t:Int)+1))/\J k' t (q.drop i) m h z lo/\Ab w0 wr Q B H G (.slice la nl cl) m h n z lo/\Ou w0.heap.size wr B m (.slice ao n2 cp) q))
 case atStart=>exact⟨0,k,rfl,bp3 _,rfl,rfl,HS5⟩
 obtain⟨i,k1,rfl,hin,hgi,hki,HS⟩:=hrel;clear HS5;rename fV=>wi
 by_cases hi2:i<n2
 case neg=>
  have hni:=ba7 hi2;obtain⟨m5,h5,q,n5,z5,lo5,hq,hn5,j5,a5,o5⟩:=gB HS;have ed:q.drop i=[]:=br7 (bo6 (Nat.le_of_eq hq.symm) (Nat.le_of_not_lt hi2));rw[ed]at j5;obtain⟨k2,hk2,j6⟩:=HRUN.more k1 t m5 h5 z5 lo5 j5;have HA5:=Fe a5;have HJ6:=Fe j6;have HN5:=Fe (bV5 hn5 hk2);have HTK:=Fe (Z4 a5.al.bx);obtain⟨n7,hn7⟩:=ex_ m5.gq.length;have HN7:=Fe hn7;rw[<-hn7]at HTK;clear j5 a5 o5 hq ed HS hn5 j6 hn7;go_wp2_with fail;refine HTK.mono ?_;rintro ee u7 ⟨ao7,cp7,rfl,ho7,b7⟩;have HS7:Hid (∃m h q n z lo,n7=q.length/\(0<=n/\n+10*(k2:Int)<=100000*((t:Int)+1))/\J k2 t q m h z lo/\Ab w0 u7 Q B H G (.slice la nl cl) m h n z lo/\Ou w0.heap.size u7 B m (.slice ao7 n7 cp7) q/\(q=[]->m.gq=[])):=Fe ⟨m5.taken,h5,m5.gq,n5,z5,lo5,HN7,HN5,HJ6,HA5.af6 b7,Ou.own HN7 HA5.al.bl.size ho7 (fun j hj hf=>bu3 _ (bo9 (HA5.al.bx.mx.ik ((Q_ m5 m5.gq.length j).1 hf)) hj)),fun _=>Xi m5⟩;clear HTK ho7 b7 HJ6 HN7 HA5 HN5;go_wp2;go_roundg (k2+1)
  case measure=>exact bW1 hk hki hi2 HN0 hk2
  exact⟨k2,n7,ao7,cp7,rfl,bX2 hk2 hki hk5,rfl,HS7⟩
 have hii:=bc8 hi2;have hiw:=n_w hki hk5;obtain⟨m5,h5,q,n5,z5,lo5,hq,hn5,j5,a5,o5⟩:=gB HS;have hiq:i<q.length:=hq▸hi2;obtain⟨f,hf⟩:=ex_ (q[i]);rw[drop_at hiq,<-hf]at j5;obtain⟨k2,l,h6,hk2,ans,hl8,hsz,hlost,hA⟩:=HRUN.frame k1 t f (q.drop (i+1)) m5 h5 z5 lo5 j5;obtain⟨g5,o5',rfl,hc5⟩:=o5.cell hiq;rw[<-hf]at hc5;have hlo:=HRUN.bU5 _ _ _ _ _ _ _ j5;have HAN:=Fe (ans wi H a5.al.ho (HCC _ a5.al.bl) (bo6 a5.al.ng a5.al.uh));have HA5:=Fe a5;have HO5:=Fe o5;have HQ5:=Fe hq;have HNN:=Fe hn5;have HLL:=Fe hlost;have HAA:=Fe hA;have HSZ:=Fe hsz;clear j5 a5 o5 hq HS hn5 ans hlost hA hsz hf;go_wp2_with fail;refine HAN.mono ?_;rintro ee u6 ⟨ao6,cp6,rfl,ho6,at6,t6⟩;have HA6:=Fe (HA5.host t6 at6);have HO6:=Fe (HO5.host HA5.al t6);have HR6:Hid (Ou w0.heap.size u6 B m5 (.slice ao6 l.length cp6) l):=Fe (Ou.own rfl HA5.al.bl.size ho6 (fun j hj hf=>bu3 _ (bo9 (HA5.al.bx.mx.ik hf) hj)));have HG6:=Fe (HA6.gone (bV6 HNN htT hT) hlo);clear HAN ho6 at6 t6 HA5 HO5 hc5;go_wp2_with fail;refine HG6.mono ?_;rintro ee u7 ⟨bb,lo7,rfl,t7,l7,hb7⟩;have HA7:=Fe (HA6.au8 t7 l7);obtain⟨ag,eg⟩:=HA6.lu.row;have HO7:=Fe (HO6.turned t7 eg (by decide));have HR7:=Fe (HR6.turned t7 eg (by decide));have HB7:=Fe hb7;clear HG6 t7 l7 HA6 HO6 HR6 hb7 eg
 cases bb with
 |true=>
  have HJ7:Hid (J k2 t (q.drop (i+1)) m5 h6 (lk m5) lo7):=Fe (by
   rcases gB HB7 with⟨e,_⟩|⟨_,e1,e2⟩
   ·cases e
   rw[e2];exact HLL e1)
  clear HB7 HAA HLL HR7;go_wp2;go_roundg (n2-i)
  case measure=>exact(bj0 hgi hi2).1
  exact⟨i+1,k2,(by first|rfl|exact by5 (Vb Vg) hiw),hi2,(bj0 hgi hi2).2,bV4 hki hk2,Fe ⟨m5,h6,q,n5+1,lk m5,lo7,HQ5,⟨(bT7 HNN hk2 hl8).1,by have:=(bT7 (l:=0) HNN hk2 (bp3 _)).2;simpa using this⟩,HJ7,HA7,HO7⟩⟩
 |false=>
  have HA8:Hid (A k2 t (q.drop (i+1)) m5 h6 (lk m5) lo7 l):=Fe (by
   rcases gB HB7 with⟨_,e⟩|⟨e,_⟩
   ·rw[e];exact HAA
   cases e)
  have HS8:Hid (∃m n z lo,(0<=n/\n+((l.length-0:Nat):Int)+10*(k2:Int)<=100000*((t:Int)+1))/\A k2 t (q.drop (i+1)) m h6 z lo (l.drop 0)/\Ab w0 u7 Q B H G (.slice la nl cl) m h6 n z lo/\Ou w0.heap.size u7 B m (.slice (some (a_ g5 o5')) n2 cp) q/\Ou w0.heap.size u7 B m (.slice ao6 l.length cp6) l):=Fe ⟨m5,n5+1,lk m5,lo7,bT7 HNN hk2 hl8,HA8,HA7,HO7,HR7⟩;clear HB7 HAA HLL HA8 HA7 HO7 HR7;go_wp2;go_loopg [66] (l.length+1) (fun gk v wr=>∃jx:Nat,v=Vb Vg jx/\jx<=l.length/\gk+jx=l.length+1/\Hid (∃m n z lo,(0<=n/\n+((l.length-jx:Nat):Int)+10*(k2:Int)<=100000*((t:Int)+1))/\A k2 t (q.drop (i+1)) m h6 z lo (l.drop jx)/\Ab w0 wr Q B H G (.slice la nl cl) m h6 n z lo/\Ou w0.heap.size wr B m (.slice (some (a_ g5 o5')) n2 cp) q/\Ou w0.heap.size wr B m (.slice ao6 l.length cp6) l))
  case atStart=>exact⟨0,rfl,bp3 _,rfl,HS8⟩
  obtain⟨jx,rfl,hjn,hgj,HS⟩:=hrel;clear HS8;rename fV=>wj
  by_cases hj2:jx<l.length
  case neg=>
   have hnj:=ba7 hj2;obtain⟨m8,n8,z8,lo8,hn8,aa,a8,o8,_⟩:=gB HS;have ed:l.drop jx=[]:=br7 (Nat.le_of_not_lt hj2);rw[ed]at aa;have HS9:Hid (∃m h q' n z lo,n2=q'.length/\(0<=n/\n+10*(k2:Int)<=100000*((t:Int)+1))/\J k2 t (q'.drop (i+1)) m h z lo/\Ab w0 wj Q B H G (.slice la nl cl) m h n z lo/\Ou w0.heap.size wj B m (.slice (some (a_ g5 o5')) n2 cp) q'):=Fe ⟨m8,h6,q,n8,z8,lo8,HQ5,bW3 hn8,HRUN.all _ _ _ _ _ _ _ aa,a8,o8⟩;clear aa a8 o8 HS ed hn8;go_wp2;go_roundg (n2-i)
   case measure=>exact(bj0 hgi hi2).1
   exact⟨i+1,k2,(by first|rfl|exact by5 (Vb Vg) hiw),hi2,(bj0 hgi hi2).2,bV4 hki hk2,HS9⟩
  have hjj:=bc8 hj2;have hjw:=bX3 hj2 hl8;obtain⟨m8,n8,z8,lo8,hn8,aa,a8,o8,r8⟩:=gB HS;obtain⟨x,hx⟩:=ex_ (l[jx]);rw[drop_at hj2,<-hx]at aa;obtain⟨g8,o8',rfl,hc8⟩:=r8.cell hj2;rw[<-hx]at hc8;obtain⟨hlost,hcq,hp1,hp2⟩:=HRUN.ans _ _ _ _ _ _ _ _ _ aa;have hlo8:=HRUN.bV2 _ _ _ _ _ _ _ _ aa;have HXS:Hid (x.size<=2000):=Fe (HSZ x (by rw[hx];exact bs4 hj2));have HG8:=Fe (a8.gone (bW5 hn8 htT hT) hlo8);have HA8:=Fe a8;have HO8:=Fe o8;have HR8:=Fe r8;have HN8:=Fe (bX4 hn8 hj2);have HLL:=Fe hlost;have HP1:=Fe hp1;have HP2:=Fe hp2;have HCQ:=Fe hcq;clear aa a8 o8 r8 HS hn8 hlost hp1 hp2 hcq hx;go_wp2_with fail;refine HG8.mono ?_;rintro ee u9 ⟨bb,lo9,rfl,t9,l9,hb9⟩;have HA9:=Fe (HA8.au8 t9 l9);obtain⟨ag,eg⟩:=HA8.lu.row;have HO9:=Fe (HO8.turned t9 eg (by decide));have HR9:=Fe (HR8.turned t9 eg (by decide));have HB9:=Fe hb9;clear HG8 t9 l9 HA8 HO8 HR8 hb9 eg hc8
  cases bb with
  |true=>
   have HS9:Hid (∃m n z lo,(0<=n/\n+((l.length-(jx+1):Nat):Int)+10*(k2:Int)<=100000*((t:Int)+1))/\A k2 t (q.drop (i+1)) m h6 z lo (l.drop ((jx+1)))/\Ab w0 u9 Q B H G (.slice la nl cl) m h6 n z lo/\Ou w0.heap.size u9 B m (.slice (some (a_ g5 o5')) n2 cp) q/\Ou w0.heap.size u9 B m (.slice (some (a_ g8 o8')) l.length cp6) l):=Fe (by
    refine⟨m8,n8+1,lk m8,lo9,HN8,?_,HA9,HO9,HR9⟩
    rcases gB HB9 with⟨e,_⟩|⟨_,e1,e2⟩
    ·cases e
    rw[e2];exact HLL e1)
   clear HB9 HA9 HO9 HR9 HLL HP1 HP2 HCQ HXS HN8;go_wp2;go_roundg (l.length-jx)
   case measure=>exact(bj0 hgj hj2).1
   exact⟨jx+1,(by first|rfl|exact by5 (Vb Vg) hjw),hj2,(bj0 hgj hj2).2,HS9⟩
  |false=>
   have hlo9:lo9=bse m8 z8 lo8:=by
    rcases gB HB9 with⟨_,e⟩|⟨e,_⟩
    ·exact e
    cases e
   rw[<-hlo9]at HP1 HP2;have hde:decide (m8.cq.length<m8.rx)=true:=decide_eq_true (Nat.lt_of_succ_lt HCQ);have HPU:=Fe (yw HA9.al.bx x (bo6 HXS (by decide)));rw[hde]at HPU;clear HB9 HLL hde hlo9;go_wp2_with fail;refine on_ HPU fun u10 b10=>?_;have HA10:=Fe (HA9.af6 b10);have HO10:=Fe (HO9.af6 b10);have HR10:=Fe (HR9.af6 b10);obtain⟨xa,xd,xe,xx,hrow⟩:=HA10.lu;have r1:u10.cell? (a_ G 1)=some (Vb Vg (n8+1)):=bn0 u10 G 1 _ _ _ hrow;clear HPU b10 HA9 HO9 HR9 hrow;go_upto_region 23 with fail;go_cut [87] (fun v wc=>∃bb,v=.bool bb/\Hid (∃k,wc=u10.drewN k));case first=>
    by_cases h0:tw=0
    ·have hp: ¬(0:Int)<tw:=by rw[h0];decide
     clear h0;go_wp2;go_meet;exact⟨_,rfl,Fe ⟨0,rfl⟩⟩
    have hp:=bS8 htw h0;have hz:=Bd h0;obtain⟨rr,hrr⟩:∃rr:Int,(n8+1).tmod tw=rr:=⟨_,rfl⟩;clear h0
    cases hb:(rr==0)with
    |true=>
     go_wp2;go_meet;exact⟨_,rfl,Fe ⟨0,rfl⟩⟩
    |false=>
     go_wp2;go_meet;exact⟨_,rfl,Fe ⟨0,rfl⟩⟩
   obtain⟨bb,rfl,HK⟩:=hcut;obtain⟨nq,hnq⟩:=gB HK;subst hnq;clear HK r1;have HA11:=Fe (HA10.below (below_drewN (bn9 _ _) nq));have HO11:=Fe (HO10.below (below_drewN (bn9 _ _) nq));have HR11:=Fe (HR10.below (below_drewN (bn9 _ _) nq));clear HA10 HO10 HR10;generalize u10.drewN nq=u11 at HA11 HO11 HR11 ⊢
   cases bb with
   |true=>
    have HPU:=Fe (yw HA11.al.bx x (bo6 HXS (by decide)));obtain⟨bq,hbq⟩:=ex_ (decide ((m8.put x).cq.length<(m8.put x).rx));rw[<-hbq]at HPU;clear hbq HP1;go_wp2_with fail;refine on_ HPU fun u12 b12=>?_;have HA12:=Fe (HA11.af6 b12);have HO12:=Fe (HO11.af6 b12);have HR12:=Fe (HR11.af6 b12);have HPO:=Fe (HP2 u12 Q B HA12.al.bx (HRR _ _ _ _ _ _ HA12.al));clear HPU b12 HA11 HO11 HR11;go_wp2_with fail;refine HPO.mono ?_;rintro ee u13 ⟨⟨kp,hkp,rfl⟩,mz,hz,hu13⟩;have hk1:=bU3 hkp;have HS9:Hid (∃m n z lo,(0<=n/\n+((l.length-(jx+1):Nat):Int)+10*(k2:Int)<=100000*((t:Int)+1))/\A k2 t (q.drop (i+1)) m h6 z lo (l.drop ((jx+1)))/\Ab w0 u13 Q B H G (.slice la nl cl) m h6 n z lo/\Ou w0.heap.size u13 B m (.slice (some (a_ g5 o5')) n2 cp) q/\Ou w0.heap.size u13 B m (.slice (some (a_ g8 o8')) l.length cp6) l):=Fe ⟨mz,n8+1,_,_,HN8,hz,HA12.af6 hu13,HO12.af6 hu13,HR12.af6 hu13⟩;clear HPO hz hu13 HA12 HO12 HR12 HP2 HN8 hkp;go_wp2;go_roundg (l.length-jx)
    case measure=>exact(bj0 hgj hj2).1
    exact⟨jx+1,(by first|rfl|exact by5 (Vb Vg) hjw),hj2,(bj0 hgj hj2).2,HS9⟩
   |false=>
    have HPO:=Fe (HP1 u11 Q B HA11.al.bx (HRR _ _ _ _ _ _ HA11.al));clear HP1 HP2;go_wp2_with fail;refine HPO.mono ?_;rintro ee u13 ⟨⟨kp,hkp,rfl⟩,mz,hz,hu13⟩;have hk1:=bU3 hkp;have HS9:Hid (∃m n z lo,(0<=n/\n+((l.length-(jx+1):Nat):Int)+10*(k2:Int)<=100000*((t:Int)+1))/\A k2 t (q.drop (i+1)) m h6 z lo (l.drop ((jx+1)))/\Ab w0 u13 Q B H G (.slice la nl cl) m h6 n z lo/\Ou w0.heap.size u13 B m (.slice (some (a_ g5 o5')) n2 cp) q/\Ou w0.heap.size u13 B m (.slice (some (a_ g8 o8')) l.length cp6) l):=Fe ⟨mz,n8+1,_,_,HN8,hz,HA11.af6 hu13,HO11.af6 hu13,HR11.af6 hu13⟩;clear HPO hz hu13 HA11 HO11 HR11 HN8 hkp;go_wp2;go_roundg (l.length-jx)
    case measure=>exact(bj0 hgj hj2).1
    exact⟨jx+1,(by first|rfl|exact by5 (Vb Vg) hjw),hj2,(bj0 hgj hj2).2,HS9⟩
end Ho
end Go.Proofs.YtdgacidndknceaaGreatDoor
