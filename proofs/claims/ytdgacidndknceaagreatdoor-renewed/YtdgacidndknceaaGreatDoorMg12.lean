import Derived.Test.YtdgacidndknceaaGreatDoorMg11
set_option linter.all false
set_option maxHeartbeats 8000000
set_option maxRecDepth 20000
open Go.ChangeShapes Go.WideShapes Go.ChangeAt Go.RowKit
open Go renaming World → fV, Calls → f_
open Go.RowKit renaming Below → gm
open Go.Proofs.Tryz renaming prog → Vh
open Go.Value renaming int → Vb
open Go.IntKind renaming u8 → Vd, u16 → Ve, u32 → Vf, i64 → Vg
open Go.Proofs.Tryz
namespace Go.Proofs.YtdgacidndknceaaGreatDoor
namespace Ho
open Bs Js
variable{w w':fV} {H:Nat}
theorem ah0(id fr ta:Int)(L:ByteArray)(h:L.size<=1480):(Ip.Db id 9 17 fr ta L).size<=1500:=by
 unfold Ip.Db;rw[bo4 (by decide),bp0 h];show(Ip.Ls _ _ _ _ _ _).toArray.size<=_;rw[bt3,Ip.Ls,bn6,Ip.jY,jc];omega
theorem Sd{w u u':fV}{b:Nat}(t:PU w u b)(hb:gm u.heap.size u u'):PU w u' b:=⟨hb.os.trans t.os,hb.tape.trans t.tape,hb.output.trans t.output,bo6 t.size hb.size,fun k hk hn=>(hb.block k (bo9 hk t.size)).trans (t.block k hk hn)⟩
theorem Zj{h:Host}(k:At w H h)(c:NA w)(hH0:(0:Nat)≠H)(hH1:(1:Nat)≠H)(f t fr ta:Int)(load:ByteArray)(hF:0<=f/\f<=65535)(hT:0<=t/\t<=65535)(hf:0<=fr/\fr<=4294967295)(ht:0<=ta/\ta<=4294967295)(hl:load.size<=262144):
  f_ Vh 70 #[p_ H,.agg (rI f t load),Vb Vf fr,Vb Vf ta] w fun ee w'=>ee=.returned (.string (h.frame f t load fr ta))/\At w' H h.Ww/\PU w w' H:=by
 have hlt:=gG k;have hB:H≠w.heap.size:=bo5 hlt;have c11:w.cell? (a_ H 11)=some (Vb Ve h.id):=k.cell 11;have f11:=k.free 11;have hid:=QQ (h.id+1);have HU:=fun u=>M0 (Ud.Wj f t fr ta load u hF hT hf ht hl);obtain⟨L,hL⟩:=ex_ (Ud.sH f t fr ta load);have hLz:L.size<=1480:=by rw[hL];exact WI _ _ _ _ _
 rw[<-hL]at HU;obtain⟨i1,hi1⟩:=ex_ (IntKind.u16.wrap (h.id+1));rw[<-hi1]at hid;have HI:=fun u=>M0 (Ip.Wj i1 9 17 fr ta L u hid (by omega) (by omega) hf ht (by omega));obtain⟨M,hM⟩:=ex_ (Ip.Db i1 9 17 fr ta L);have hMz:M.size<=1500:=by rw[hM];exact ah0 _ _ _ _ hLz
 rw[<-hM]at HI;have HE:=fun u=>M0 (og.Wj 2 0 0 0 0 42 2 0 0 0 0 7 2048 M u (by decide) (by decide) (by omega));have HFR:Hid (h.frame f t load fr ta=og.ni [2,0,0,0,0,42,2,0,0,0,0,7] 2048 M):=M0 (by rw[hM,hi1,hL];rfl);obtain⟨X,hX⟩:=ex_ ((w.setCell (a_ H 11) (Vb Ve i1)).alloc (.cells (rI f t load) 69));have HX:Hid (At X H h.Ww/\NA X/\PU w X H/\X.heap[w.heap.size]?=some (.cells (rI f t load) 69 (0,0))):=M0 (by
  have ks:At (w.setCell (a_ H 11) (Vb Ve i1)) H h.Ww:=k.set 11 _ (by rw[hi1];rfl)
  have hz:(w.setCell (a_ H 11) (Vb Ve i1)).heap.size=w.heap.size:=by simp[World.setCell]
  have hs:∀j,j<w.heap.size->j≠H->X.heap[j]?=w.heap[j]?:=fun j hj hn=>by rw[hX,bn8 _ _ _ (by rw[hz];exact hj)];exact bo0 _ _ _ _ hn
  refine⟨by rw[hX];exact ks.below b1_,c.of (hs _ c.lt.1 hH0) (hs _ c.lt.2 hH1),⟨by rw[hX];rfl,by rw[hX];rfl,by rw[hX];rfl,by rw[hX];simp[World.setCell],hs⟩,?_⟩
  have q:=bn3 (w.setCell (a_ H 11) (Vb Ve i1)) (.cells (rI f t load) 69)
  rw[hz]at q
  rw[hX];exact q)
 have HIE:Hid (i1=h.Ww.id):=M0 hi1;clear k c hL hM;go_enter func70,ntmps70;go_wp2_with fail;rw[<-hi1,<-hX];clear hX c11 f11 hi1;refine on_ (gB (HU _)) fun u1 hb1=>?_;have H1:Hid (At u1 H h.Ww/\NA u1/\PU w u1 H):=M0 ⟨HX.1.below hb1,HX.2.1.below hb1,Sd HX.2.2.1 hb1⟩;have d11:u1.cell? (a_ H 11)=some (Vb Ve i1):=by rw[H1.1.cell 11,gB HIE];rfl
 clear hb1 HX HU;go_wp2_with fail;refine on_ (gB (HI _)) fun u2 hb2=>?_;have H2:Hid (At u2 H h.Ww/\NA u2/\PU w u2 H):=M0 ⟨H1.1.below hb2,H1.2.1.below hb2,Sd H1.2.2 hb2⟩;obtain⟨g0,g1,g2,g3,g4,g5,g6,g7,g8,g9,g10,g11⟩:=H2.2.1;clear hb2 H1 HI d11;go_wp2_with fail;refine on_ (gB (HE _)) fun u3 hb3=>?_;have H3:Hid (At u3 H h.Ww/\PU w u3 H):=M0 ⟨H2.1.below hb3,Sd H2.2.2 hb3⟩;clear hb3 H2 HE g0 g1 g2 g3 g4 g5 g6 g7 g8 g9 g10 g11;go_wp2;go_ret;rw[gB HFR];exact⟨rfl,H3.1,H3.2⟩
end Ho
namespace Ho
open Bs Js
variable{w0 w w':fV} {Q B H G:Nat} {m m':Mc} {h h':Host}
theorem ap5{P:Nat->Prop}(k:Mx w0 P w B m){g:Nat}{a:Array Value}{t:TypeId}{z:Nat×Nat}(hk:w.heap[g]?=some (.cells a t z))(h1:t≠115)(h2:t≠9)(h3:t≠5): ¬iq B m g:=by
 intro hf
 rcases hf with rfl|rfl|rfl|rfl|hk'
 ·have e:=k.row
  rw[hk]at e;simp only[bq6,br6]at e;exact h1 e.2.1
 ·obtain⟨es,c,e,_⟩:=k.map
  rw[hk]at e;simp at e
 ·obtain⟨_,_,_,_,arr,e,_⟩:=k.came
  rw[hk]at e;simp only[bq6,br6]at e;exact h2 e.2.1
 ·obtain⟨_,_,_,_,arr,e,_⟩:=k.goes
  rw[hk]at e;simp only[bq6,br6]at e;exact h2 e.2.1
 rcases k.image.2 with⟨e,_⟩|⟨g',cap,cur,e1,e2,e3,e4⟩
 ·rw[e]at hk';cases hk'
 rw[e1]at hk';have:g'=g:=bp4 hk';subst this;rw[hk]at e3;simp only[bq6,br6]at e3;exact h3 e3.2.1
theorem moved{P:Nat->Prop}(k:Mx w0 P w B m){b:Nat}(t:PU w w' b)(hb: ¬iq B m b)(hn:4<=b):Mx w' (iq B m) w' B m:=by
 have e:∀j,iq B m j->w'.heap[j]?=w.heap[j]?:=fun j hj=>t.block j (k.ik hj) (fun e=>hb (e▸hj));refine⟨rfl,rfl,rfl,bn7 _,fun _ _ _=>rfl,fun _ h=>bo1 h,⟨bo6 k.low.1 (bo6 k.size t.size),fun j hj=>k.tL hj⟩,fun j hj=> ?_,(e B (bo1 rfl)).trans k.row,oP k.map (e _ (bo3 (bo1 rfl))),k.came.other (e _ (bo3 (bo3 (bo1 rfl)))),k.goes.other (e _ (bo3 (bo3 (bo3 (bo1 rfl))))),k.apart,iN k.image (fun j hj=>e j (bo3 (bo3 (bo3 (bo3 hj)))))⟩;have q:=k.base.gl j hj;have h1:(2:Nat)<w.heap.size:=bo9 (by decide:2<4) (bo6 k.low.1 k.size);have h2:(2:Nat)≠b:=fun e=>absurd (e▸hn) (by decide);simp only[World.cell?]at q ⊢;rw[t.block _ h1 h2];exact q
variable{v:Value} {l:List ByteArray}
end Ho
namespace Ho
open Bs Js
variable{w0 w w':fV} {Q B H G:Nat} {m m':Mc} {h h':Host}
theorem aA{w:fV}{G:Nat}{j:Nat}{v:Value}:PU w (w.setCell (a_ G j) v) G:=⟨rfl,rfl,rfl,by simp[World.setCell],fun k hk hn=>bo0 _ _ _ _ hn⟩
theorem PU.go{w u u':fV}{b:Nat}(t:PU w u b)(s:PU u u' b):PU w u' b:=⟨s.os.trans t.os,s.tape.trans t.tape,s.output.trans t.output,bo6 t.size s.size,fun k hk hn=>(s.block k (bo9 hk t.size) hn).trans (t.block k hk hn)⟩
end Ho
namespace Ho
open Bs Js
variable{w0 w w':fV} {Q B H G:Nat} {m m':Mc} {h h':Host} {R:fV→(Nat→Prop)→Prop}
def ao6(R:fV->(Nat->Prop)->Prop)(m:Mc)(d:Int)(Z:Mc->Prop):Prop:=∀(w:fV) (Q B:Nat),Bx w (iq B m) w Q B m->R w (iq B m)->f_ Vh 15 #[p_ Q,Vb Vf d] w fun ee w'=>ee=.returned (.tuple #[])/\∃mz,Z mz/\Bx w (iq B m) w' Q B mz
def YC(C:fV->Prop)(h:Host)(f:ByteArray)(l:List ByteArray)(h':Host):Prop:=∀(w:fV) (H:Nat),At w H h->C w->4<=H->f_ Vh 23 #[p_ H,.string f] w fun ee w'=>∃ao cp,ee=.returned (.tuple #[.slice ao l.length cp,.bool true])/\w'.ownsRow w.heap.size 9 1 (.slice ao l.length cp) l.length (Js.strs l)/\At w' H h'/\PU w w' H
end Ho
namespace Ho
open Bs Js
variable{w w':fV} {H:Nat} {h:Host}
theorem az7(x:Int)(h:0<=x/\x<=9223372036854775807):IntKind.i64.wrap x=x:=by
 rw[bB0];omega
def WN(bl:Nat)(D:List UInt8):Tf.RH:=⟨3,bl,[],D,[]⟩
def YD(bl:Nat)(D:List UInt8):ByteArray:=⟨(Tf.U7 (WN bl D)).toArray⟩
theorem av0(bl:Nat)(D:List UInt8)(h:D.length<=8):(Tf.U7 (WN bl D)).length<=262144:=by
 unfold Tf.U7
 split
 ·show(Tf.Mq (WN bl D)).length<=_
  simp[Tf.Mq,WN,Tf.TU];omega
 simp
def Host.YP(h:Host)(n:Nat):Host:={h with id:=if n=0 then h.id else IntKind.u16.wrap (h.id+n)}
theorem aw1(h:Host)(n:Nat):(h.YP n).Ww=h.YP (n+1):=by
 unfold Host.YP Host.Ww;have e:IntKind.u16.wrap ((if n=0 then h.id else IntKind.u16.wrap (h.id+n))+1)=IntKind.u16.wrap (h.id+((n+1:Nat):Int)):=by
  show _%65536=_%65536
  split
  ·rename_i hn;subst hn;simp
  show((h.id+n)%65536+1)%65536=_;push_cast
  omega
 simp only[e];rfl
def Host.blk(h:Host)(k:Nat):List UInt8:=(h.image.data.toList.drop (k*8)).take 8
def Host.ac2(h:Host)(f:Int)(k:Nat):ByteArray:=h.frame h.port f (YD ((k+1)%65536) (h.blk k)) h.next 167772215
def Host.WE(h:Host)(f:Int)(s n:Nat):List ByteArray:=(List.range n).map fun i=>(h.YP i).ac2 f (s+i)
theorem ar8(h:Host)(f:Int)(s n:Nat):h.WE f s (n+1)=h.WE f s n++ [(h.YP n).ac2 f (s+n)]:=by
 unfold Host.WE;rw[List.range_succ,bv7];rfl
theorem aC5{u:fV}{b n:Nat}{v:Value}{xs:List Value}(o:u.ownsRow (b+1) 9 1 v n xs):u.ownsRow b 9 1 v n xs:=
 ⟨o.1,o.2.imp id (fun⟨g,cap,cur,e1,e2,e3⟩=>⟨g,cap,cur,e1,Nat.le_of_succ_le e2,e3⟩)⟩
theorem as8(img:ByteArray)(k:Nat)(lo mn:Int)(h1:lo=((k*8:Nat):Int))(h2:lo<=img.size)(h3:mn=min (img.size:Int) (((k+1)*8:Nat):Int))(u:fV):
  (Instr.sliceAt 9 (.string img) (some (Vb Vg lo)) (some (Vb Vg mn)) none).run Vh u=.ok (.string ⟨((img.data.toList.drop (k*8)).take 8).toArray⟩) u:=by
 have hl:0<=lo:=by omega
 have hm:lo<=mn:=by omega
 have hz:mn<=(img.size:Int):=by omega
 have e:img.extract lo.toNat mn.toNat=⟨((img.data.toList.drop (k*8)).take 8).toArray⟩:=by
  apply bC8;apply bD1;rw[bv3,bC2];have hls:=jc img;have ea:lo.toNat=k*8:=by omega
  rw[ea];show(img.data.toList.drop (k*8)).take (mn.toNat-k*8)=(img.data.toList.drop (k*8)).take 8
  by_cases hc:(k+1)*8<=img.size
  ·rw[show mn.toNat-k*8=8 by omega]
  rw[bt6 (by rw[bq8];omega),bt6 (by rw[bq8];omega)]
 rw[<-e];clear e h1 h2 h3;go_simp
structure Bk (w u:fV) (H:Nat) (h:Host) (f t:Int) (ld:ByteArray) (v:Value) (n:Nat) (l:List ByteArray):Prop where
 at':At u H h
 cd:NA u
 tn:PU w u H
 bx:u.heap[w.heap.size]?=some (.cells (rI f t ld) 69 (0,0))
 own:u.ownsRow (w.heap.size+1) 9 1 v n (Js.strs l)
variable{u u':fV} {f t:Int} {ld:ByteArray} {v:Value} {n:Nat} {l:List ByteArray}
theorem Bk.below(b:Bk w u H h f t ld v n l)(hb:gm u.heap.size u u'):Bk w u' H h f t ld v n l:=
 ⟨b.at'.below hb,b.cd.below hb,Sd b.tn hb,(hb.block _ (gG b.bx)).trans b.bx,iN b.own (fun j hj=>hb.block j (b.own.lt j hj).2)⟩
theorem Bk.host(b:Bk w u H h f t ld v n l)(hH:H<w.heap.size)(h0:(0:Nat)≠H)(h1:(1:Nat)≠H){h':Host}(k:At u' H h')(tn:PU u u' H):Bk w u' H h' f t ld v n l:=
 ⟨k,b.cd.of (tn.block _ b.cd.lt.1 h0) (tn.block _ b.cd.lt.2 h1),⟨tn.os.trans b.tn.os,tn.tape.trans b.tn.tape,tn.output.trans b.tn.output,bo6 b.tn.size tn.size,fun j hj hn=>(tn.block j (bo9 hj b.tn.size) hn).trans (b.tn.block j hj hn)⟩,(tn.block _ (gG b.bx) (by omega)).trans b.bx,iN b.own (fun j hj=>tn.block j (b.own.lt j hj).2 (by have:=(b.own.lt j hj).1;omega))⟩
theorem Bk.push(b:Bk w u H h f t ld v n l)(hH:H<w.heap.size)(hc:0<w.heap.size/\1<w.heap.size){v':Value}{fr:ByteArray}(o:u'.ownsRow (w.heap.size+1) 9 1 v' (n+1) (Js.strs l++ [.string fr]))(g:u.grownBy u' v.ownBlock):Bk w u' H h f t ld v' (n+1) (l++ [fr]):=by
 have hne:∀j,j<=w.heap.size->some j≠v.ownBlock:=fun j hj e=>by have:=(b.own.lt j e.symm).1;omega
 have hw:=b.tn.size;have hz:=gG b.bx;have e:∀j,j<=w.heap.size->u'.heap[j]?=u.heap[j]?:=fun j hj=>g.block j (by omega) (hne j hj);refine⟨(e H (by omega)).trans b.at',b.cd.of (e _ (bv6 hc.1)) (e _ (bv6 hc.2)),⟨g.os.trans b.tn.os,g.tape.trans b.tn.tape,g.output.trans b.tn.output,bo6 b.tn.size g.size,fun j hj hn=>(e j (by omega)).trans (b.tn.block j hj hn)⟩,(e _ (bn7 _)).trans b.bx,?_⟩;unfold Js.strs at o ⊢;rw[bv7];exact o
theorem am5(k:At w H h)(c:NA w)(hH0:(0:Nat)≠H)(hH1:(1:Nat)≠H)(f t:Int)(ld:ByteArray)(hF:0<=f/\f<=65535)(hp:0<=h.port/\h.port<=65535)(hn:0<=h.next/\h.next<=4294967295)(hb:h.block=8)(s wn N:Nat)(hs:h.sent=s)(hsz:s<=1000000)(hw:h.window=wn)(hwz:wn<=8)(hi:h.image.size<=1000000)
  (hN:N<=wn) (hN1:∀i,i<N->(s+i)*8<=h.image.size) (hN2:N=wn∨h.image.size<(s+N)*8):
  f_ Vh 73 #[p_ H,.agg (rI f t ld)] w fun ee w'=>∃ao cp,ee=.returned (.slice ao N cp)/\w'.ownsRow w.heap.size 9 1 (.slice ao N cp) N (Js.strs (h.WE f s N))/\At w' H (h.YP N)/\PU w w' H:=by
 have hlt:=gG k;have hHn:H≠w.heap.size:=bo5 hlt;obtain⟨sI,hsI⟩:∃sI:Int,sI=h.sent:=⟨_,rfl⟩;obtain⟨wI,hwI⟩:∃wI:Int,wI=h.window:=⟨_,rfl⟩;have c7:w.cell? (a_ H 7)=some (Vb Vg sI):=by rw[hsI];exact k.cell 7
 obtain⟨X,hX⟩:=ex_ (w.alloc (.cells (rI f t ld) 69));have hcl:=c.lt;have HX:Hid (Bk w X H (h.YP 0) f t ld (.slice none 0 0) 0 (h.WE f s 0)):=M0 (by
  have hb2:gm w.heap.size w X:=by rw[hX];exact(bn9 _ _).alloc (bn7 _) _
  exact⟨k.below hb2,c.below hb2,⟨hb2.os,hb2.tape,hb2.output,hb2.size,fun j hj _=>hb2.block j hj⟩,by rw[hX];exact bn3 w _,bq3 _ _ _ _⟩)
 have HQ:Hid (sI=s/\wI=wn/\s<=1000000/\wn<=8/\h.image.size<=1000000/\N<=wn/\(∀i,i<N->(s+i)*8<=h.image.size)/\(N=wn∨h.image.size<(s+N)*8)):=M0 ⟨hsI.trans hs,hwI.trans hw,hsz,hwz,hi,hN,hN1,hN2⟩;have HSW:Hid (h.sent=sI/\h.window=wI/\h.block=8):=M0 ⟨hsI.symm,hwI.symm,hb⟩;clear k c hs hw hsz hwz hi hN hN1 hN2 hsI hwI hb;go_enter func73,ntmps73;go_wp2_with fail;rw[<-hX];clear hX c7;go_loopg [5,6] (N+1) (fun gk v i wr=>∃(n:Nat) (iv:Int) (ao:Option Addr) (cp:Nat),i=Vb Vg iv/\v=.slice ao n cp/\Hid (n<=N/\gk+n=N+1/\iv=(s:Int)+n)/\Hid (Bk w wr H (h.YP n) f t ld (.slice ao n cp) n (h.WE f s n)))
 case atStart=>exact⟨0,sI,none,0,rfl,rfl,M0 ⟨bp3 _,rfl,by rw[HQ.1];simp⟩,HX⟩
 obtain⟨n,iv,ao,cp,rfl,rfl,HN,HS⟩:=hrel;clear HX;have r0:wr.cell? (a_ H 0)=some (.string h.image):=HS.at'.cell 0;have r4:wr.cell? (a_ H 4)=some (Vb Ve h.port):=HS.at'.cell 4;have r2:wr.cell? (a_ H 2)=some (Vb Vf h.next):=HS.at'.cell 2;have r5:wr.cell? (a_ H 5)=some (Vb Vg 8):=by rw[<-HSW.2.2];exact HS.at'.cell 5
 have r6:wr.cell? (a_ H 6)=some (Vb Vg wI):=by rw[<-HSW.2.1];exact HS.at'.cell 6
 have r7:wr.cell? (a_ H 7)=some (Vb Vg sI):=by rw[<-HSW.1];exact HS.at'.cell 7
 obtain⟨X1,hX1,HX1⟩:∃X1:Int,IntKind.i64.wrap (sI+wI)=X1/\Hid (X1=(s:Int)+wn):=⟨_,rfl,M0 (by
  obtain⟨e1,e2,e3,e4,_⟩:=gB HQ
  rw[e1,e2];exact az7 _ (by omega))⟩
 obtain⟨lo,hlo,HLO⟩:∃lo:Int,IntKind.i64.wrap (iv*8)=lo/\Hid (lo=((s:Int)+n)*8):=⟨_,rfl,M0 (by
  obtain⟨e1,e2,e3,e4,e5,e6,_⟩:=gB HQ
  rw[HN.2.2]
  have:=HN.1
  exact az7 _ (by omega))⟩
 by_cases hlt2:n<N
 ·have g1:decide (iv<X1)=true:=by
   have:=HN.2.2;have:=gB HX1;have:=HQ.2.2.2.2.2.1;simp;omega
  have g2:decide (lo<=(h.image.size:Int))=true:=by
   have:=gB HLO;have:=HQ.2.2.2.2.2.2.1 n hlt2;simp;omega
  obtain⟨i1,hi1,HI1⟩:∃i1:Int,IntKind.i64.wrap (iv+1)=i1/\Hid (i1=(s:Int)+n+1):=⟨_,rfl,M0 (by
   obtain⟨e1,e2,e3,e4,e5,e6,_⟩:=gB HQ
   have:=HN.1
   rw[HN.2.2]
   exact az7 _ (by omega))⟩
  obtain⟨bl,hbl,HBL⟩:∃bl:Int,IntKind.u16.wrap i1=bl/\Hid (bl=(((s+n+1)%65536:Nat):Int)):=⟨_,rfl,M0 (by
   rw[gB HI1]
   show((s:Int)+n+1)%65536=_
   omega)⟩
  obtain⟨hi,hhi,HHI⟩:∃hi:Int,IntKind.i64.wrap (i1*8)=hi/\Hid (hi=((s:Int)+n+1)*8):=⟨_,rfl,M0 (by
   obtain⟨e1,e2,e3,e4,e5,e6,_⟩:=gB HQ
   have:=HN.1
   rw[gB HI1]
   exact az7 _ (by omega))⟩
  obtain⟨dS,hdS⟩:∃dS:ByteArray,dS=⟨(h.blk (s+n)).toArray⟩:=⟨_,rfl⟩;obtain⟨mn,hmn,HMN⟩:∃mn:Int,min (h.image.size:Int) hi=mn/\Hid (lo<=mn/\mn<=h.image.size/\mn<=hi):=⟨_,rfl,M0 (by
   have:=gB HLO
   have:=gB HHI
   have:=HQ.2.2.2.2.2.2.1 n hlt2
   omega)⟩
  have hsl:∀u:fV,(Instr.sliceAt 9 (.string h.image) (some (Vb Vg lo)) (some (Vb Vg mn)) none).run Vh u=.ok (.string dS) u:=fun u=>by
   have e1:=gB HLO;have e2:=gB HHI;have e3:=HQ.2.2.2.2.2.2.1 n hlt2;rw[hdS];refine as8 h.image (s+n) lo mn ?_ ?_ ?_ u
   ·omega
   ·omega
   rw[<-hmn,e2];omega
  have HW5:Hid (∀u:fV,f_ Vh 74 #[.agg (rG 3 bl ⟨#[]⟩ dS none 0 0)] u fun ee w'=>ee=.returned (.tuple #[.string (YD ((s+n+1)%65536) (h.blk (s+n))),Vb Vg (Tf.UU (WN ((s+n+1)%65536) (h.blk (s+n))))])/\gm u.heap.size u w'):=M0 (fun u=>by
   refine Tf.Wj 3 bl ⟨#[]⟩ dS none 0 (WN ((s+n+1)%65536) (h.blk (s+n))) u rfl HBL.symm ?_ ?_ rfl (by rw[hdS];rfl) (fun i hi=>absurd hi (by simp[WN])) (by simp[WN,Tf.lF]) (by simp[WN]) ?_
   ·rw[gB HBL];omega
   ·rw[gB HBL];omega
   show(h.blk (s+n)).length<=_
   unfold Host.blk
   rw[bp7];omega)
  obtain⟨aB,haB⟩:=ex_ (YD ((s+n+1)%65536) (h.blk (s+n)));obtain⟨ek,hek⟩:∃ek:Int,ek=Tf.UU (WN ((s+n+1)%65536) (h.blk (s+n))):=⟨_,rfl⟩;rw[<-haB,<-hek]at HW5;have HAB:=M0 haB;clear haB hek hdS;go_wp2_with fail;go_quiet (fail);go_wp2_with fail;obtain⟨V,hV⟩:=ex_ (wr.drewN nq);have HV:Hid (gm wr.heap.size wr V):=M0 (by rw[hV];exact below_drewN (bn9 _ _) _);rw[<-hV];clear hV;have HK5:Hid (∀u,gm wr.heap.size wr u->u.cell? (a_ H 0)=some (.string h.image)/\u.cell? (a_ H 5)=some (Vb Vg 8)):=M0 (fun u hu=>⟨(HS.below hu).at'.cell 0,by rw[<-HSW.2.2];exact(HS.below hu).at'.cell 5⟩);clear r0 r2 r4 r5 r6 r7;go_region_held3 (fun u=>u.cell? (a_ H 0)=some (.string h.image)/\u.cell? (a_ H 5)=some (Vb Vg 8)) (first|exact HK5 _ HV.drew|exact HK5 _ HV|exact HK5 _ HB5)
   (first|(go_at_call 74;refine(HW5 _).mono ?_;rintro ee u5 ⟨rfl,hb5⟩;have HB5:Hid (gm wr.heap.size wr u5):=M0 (HV.drew.trans (hb5.mono HV.drew.size));clear hb5))
  have HS5:Hid (Bk w u5 H (h.YP n) f t ld (.slice ao n cp) n (h.WE f s n)):=M0 (HS.below HB5);obtain⟨fr,hfr⟩:=ex_ ((h.YP n).ac2 f (s+n));have HCE:Hid (∀u,(∃k v q l,Bk w u H (h.YP k) f t ld v q l)->c_ u H 4 (Vb Ve h.port)/\c_ u H 2 (Vb Vf h.next)/\c_ u w.heap.size 0 (Vb Ve f)):=M0 (fun u ⟨k,v,q,l,hu⟩=>⟨hu.at'.cell 4,hu.at'.cell 2,bn0 u _ 0 _ _ _ hu.bx⟩);have HWR:Hid (∀u,Bk w u H (h.YP n) f t ld (.slice ao n cp) n (h.WE f s n)->f_ Vh 70 #[p_ H,.agg (rI h.port f aB),Vb Vf h.next,Vb Vf 167772215] u fun ee w'=>ee=.returned (.string fr)/\Bk w w' H (h.YP (n+1)) f t ld (.slice ao n cp) n (h.WE f s n)):=M0 (fun u hu=>by
   refine(Zj hu.at' hu.cd hH0 hH1 h.port f h.next 167772215 aB hp hF hn (by decide) ?_).mono ?_
   ·rw[gB HAB]
    unfold YD
    rw[strSize]
    exact av0 _ _ (by unfold Host.blk;rw[bp7];omega)
   rintro ee w' ⟨rfl,k6,t6⟩
   rw[aw1]at k6
   refine⟨?_,hu.host hlt hH0 hH1 k6 t6⟩
   rw[hfr,gB HAB];rfl)
  have HNX:Hid (h.WE f s (n+1)=h.WE f s n++ [fr]):=M0 (by rw[ar8,hfr]);clear hfr HK5 HW5 HAB hsl;have HNB:Hid (n+1<=maxLen/\(n+1)*16<=140737488355328):=M0 (by have:=HN.1;obtain⟨_,_,_,e4,_,e6,_⟩:=gB HQ;unfold maxLen;omega);obtain⟨i0,hi0,hz0,hz1,hz2⟩:=bs1 TZ;go_wp2_with fail;refine wp_region_held_drew (S:=fun u=>c_ u H 4 (Vb Ve h.port)/\c_ u H 2 (Vb Vf h.next)/\c_ u w.heap.size 0 (Vb Ve f)) (by kernel_rfl) (HCE _ ⟨_,_,_,_,HS5.below ((bn9 _ _).drew)⟩) (fun hHeld=> ?_);refine tkH_ (i:=0) (v:=(.slice ao n cp)) rfl (by kernel_rfl) (fun _ _ _ h=>h) (bo1 ⟨by rfl,?_⟩) hHeld ?_
  ·(intro wz hSz;go_simp)
  try simp only[Act.put,bn4,bn2,bn1,bm7,bm8,bm9]
  refine tkH_ (i:=1) (v:=(p_ H)) rfl (by kernel_rfl) (fun _ _ _ h=>h) (bo1 ⟨by rfl,?_⟩) hHeld ?_
  ·(intro wz hSz;go_simp)
  try simp only[Act.put,bn4,bn2,bn1,bm7,bm8,bm9]
  refine tkH_ (i:=2) (v:=(p_ H)) rfl (by kernel_rfl) (fun _ _ _ h=>h) (bo1 ⟨by rfl,?_⟩) hHeld ?_
  ·(intro wz hSz;go_simp)
  try simp only[Act.put,bn4,bn2,bn1,bm7,bm8,bm9]
  refine tkH_ (i:=3) (v:=(p_ H)) rfl (by kernel_rfl) (fun _ _ _ h=>h) (bo1 ⟨by rfl,?_⟩) hHeld ?_
  ·(intro wz hSz;go_simp)
  try simp only[Act.put,bn4,bn2,bn1,bm7,bm8,bm9]
  refine tkH_ (i:=4) (v:=(.pointer (some (a_ H 4)))) rfl (by kernel_rfl) (fun _ _ _ h=>h) (bo1 ⟨by rfl,?_⟩) hHeld ?_
  ·(intro wz hSz;go_simp)
  try simp only[Act.put,bn4,bn2,bn1,bm7,bm8,bm9]
  refine tkH_ (i:=5) (v:=(Vb Ve h.port)) rfl (by kernel_rfl) (fun _ _ _ h=>h) (bo1 ⟨by rfl,?_⟩) hHeld ?_
  ·(intro wz hSz;go_simp)
  try simp only[Act.put,bn4,bn2,bn1,bm7,bm8,bm9]
  refine tkH_ (i:=6) (v:=(p_ w.heap.size)) rfl (by kernel_rfl) (fun _ _ _ h=>h) (bo1 ⟨by rfl,?_⟩) hHeld ?_
  ·(intro wz hSz;go_simp)
  try simp only[Act.put,bn4,bn2,bn1,bm7,bm8,bm9]
  refine tkH_ (i:=7) (v:=(Vb Ve f)) rfl (by kernel_rfl) (fun _ _ _ h=>h) (bo1 ⟨by rfl,?_⟩) hHeld ?_
  ·(intro wz hSz;go_simp)
  try simp only[Act.put,bn4,bn2,bn1,bm7,bm8,bm9]
  refine tkH_ (i:=8) (v:=(.string aB)) rfl (by kernel_rfl) (fun _ _ _ h=>h) (bo1 ⟨by rfl,?_⟩) hHeld ?_
  ·(intro wz hSz;go_simp)
  try simp only[Act.put,bn4,bn2,bn1,bm7,bm8,bm9]
  refine tkH_ (i:=9) (v:=(.agg (rI h.port f aB))) rfl (by kernel_rfl) (fun _ _ _ h=>h) (bo1 ⟨by rfl,?_⟩) hHeld ?_
  ·(intro wz hSz;go_simp)
  try simp only[Act.put,bn4,bn2,bn1,bm7,bm8,bm9]
  refine tkH_ (i:=10) (v:=(p_ H)) rfl (by kernel_rfl) (fun _ _ _ h=>h) (bo1 ⟨by rfl,?_⟩) hHeld ?_
  ·(intro wz hSz;go_simp)
  try simp only[Act.put,bn4,bn2,bn1,bm7,bm8,bm9]
  refine tkH_ (i:=11) (v:=(p_ H)) rfl (by kernel_rfl) (fun _ _ _ h=>h) (bo1 ⟨by rfl,?_⟩) hHeld ?_
  ·(intro wz hSz;go_simp)
  try simp only[Act.put,bn4,bn2,bn1,bm7,bm8,bm9]
  refine tkH_ (i:=12) (v:=(.pointer (some (a_ H 2)))) rfl (by kernel_rfl) (fun _ _ _ h=>h) (bo1 ⟨by rfl,?_⟩) hHeld ?_
  ·(intro wz hSz;go_simp)
  try simp only[Act.put,bn4,bn2,bn1,bm7,bm8,bm9]
  refine tkH_ (i:=13) (v:=(Vb Vf h.next)) rfl (by kernel_rfl) (fun _ _ _ h=>h) (bo1 ⟨by rfl,?_⟩) hHeld ?_
  ·(intro wz hSz;go_simp)
  try simp only[Act.put,bn4,bn2,bn1,bm7,bm8,bm9]
  refine wpAnyH_ready (rs:=[14]) (by kernel_rfl) (by simp) ?_;refine AllReadyH.cons rfl (fun K hK=> ?_) AllReadyH.nil;go_simp
  refine on_ (HWR _ (HS5.below ((bn9 _ _).drew))) fun u6 h6=>?_;have H6:=M0 h6;clear h6 hHeld;go_wp2_with fail;refine hK.out _ _ ?_ (fun hHeld=> ?_)
  ·exact HCE _ ⟨_,_,_,_,H6⟩
  clear hK K;try simp only[Act.put,bn4,bn2,bn1,bm7,bm8,bm9]
  refine wpAnyH_ready (rs:=[15]) (by kernel_rfl) (by simp) ?_;refine AllReadyH.cons rfl (fun K hK=> ?_) AllReadyH.nil;go_simp
  have H7:Hid (Bk w (u6.alloc (.cells #[.string fr] 9)) H (h.YP (n+1)) f t ld (.slice ao n cp) n (h.WE f s n)):=M0 (H6.below b1_);clear hHeld;refine hK.out _ _ ?_ (fun hHeld=> ?_)
  ·exact HCE _ ⟨_,_,_,_,H7⟩
  clear hK K;try simp only[Act.put,bn4,bn2,bn1,bm7,bm8,bm9]
  refine wpAnyH_ready (rs:=[16]) (by kernel_rfl) (by simp) ?_;refine AllReadyH.cons rfl (fun K hK=> ?_) AllReadyH.nil;refine yT rfl (.tmp 72) (.tmp 87) 44 rfl (w.heap.size+1) 9 i0 (.string ⟨#[]⟩) 1 16 by2 hi0 hz0 hz1 hz2 rfl (by decide) (.slice ao n cp) n (Js.strs (h.WE f s n)) ?_ H7.own (a_ u6.heap.size 0) 1 1 [.string fr] ?_ rfl (cell_one_new _ _ _) ?_ ?_ ?_ ?_ ?_
  ·first|rfl|simp[Act.eval]
  ·first|rfl|simp[Act.eval]
  ·intro x hx;simp at hx;subst hx;rfl
  ·exact HNB.1
  ·exact HNB.2
  ·exact bv6 (Nat.lt_of_le_of_lt (gG H6.bx) (by simp))
  intro v8 w8 hown hg;have H8:Hid (Bk w w8 H (h.YP (n+1)) f t ld v8 (n+1) (h.WE f s (n+1))):=M0 (by rw[gB HNX];exact H7.push hlt hcl hown hg);obtain⟨a8,c8,hv8⟩:=Dh.ib hown;subst hv8;clear hown hg hHeld;refine hK.out _ _ ?_ (fun hHeld=> ?_)
  ·exact HCE _ ⟨_,_,_,_,H8⟩
  clear hK K;try simp only[Act.put,bn4,bn2,bn1,bm7,bm8,bm9]
  refine tkH_ (i:=17) (v:=(.slice a8 (n+1) c8)) rfl (by kernel_rfl) (fun _ _ _ h=>h) (bo1 ⟨by rfl,?_⟩) hHeld ?_
  ·(intro wz hSz;go_simp)
  try simp only[Act.put,bn4,bn2,bn1,bm7,bm8,bm9]
  refine bw0 (by kernel_rfl) ?_ _;go_wp2;go_roundg (N-n)
  case measure=>have:=HN.2.1;omega
  exact⟨n+1,i1,a8,c8,rfl,rfl,M0 ⟨hlt2,by have:=HN.2.1;omega,by have:=gB HI1;omega⟩,H8⟩
 have hnN:n=N:=by have:=HN.1;omega
 have HFIN:Hid (wr.ownsRow w.heap.size 9 1 (.slice ao N cp) N (Js.strs (h.WE f s N))/\At wr H (h.YP N)/\PU w wr H):=M0 (by
  have q:=gB HS
  rw[hnN]at q
  exact⟨aC5 q.own,q.at',q.tn⟩)
 have HNN:=M0 hnN
 by_cases hwn:n=wn
 ·have g1:decide (iv<X1)=false:=by
   have:=HN.2.2;have:=gB HX1;simp;omega
  clear hwn hnN hlt2;go_wp2_with fail;go_quiet (fail);go_wp2;go_ret;refine⟨ao,cp,?_,?_,?_,?_⟩
  ·rw[<-gB HNN];rfl
  ·exact iN HFIN.1 (fun _ _=>rfl)
  ·exact HFIN.2.1
  exact Sd HFIN.2.2 (below_drewN (bn9 _ _) _)
 have g1:decide (iv<X1)=true:=by
  have:=HN.2.2;have:=gB HX1;have:=HQ.2.2.2.2.2.1;simp;omega
 have g2:decide (lo<=(h.image.size:Int))=false:=by
  have:=gB HLO
  rcases HQ.2.2.2.2.2.2.2 with e|e
  ·omega
  rw[<-hnN]at e;simp;omega
 clear hwn hnN hlt2;go_wp2_with fail;go_quiet (fail);go_wp2;go_ret;refine⟨ao,cp,?_,?_,?_,?_⟩
 ·rw[<-gB HNN];rfl
 ·exact iN HFIN.1 (fun _ _=>rfl)
 ·exact HFIN.2.1
 exact Sd HFIN.2.2 (below_drewN (bn9 _ _) _)
end Ho
namespace Ho
open Bs Js
variable{w w' u u':fV} {H:Nat} {h h':Host}
structure Tx (w u:fV) (H:Nat) (h:Host) (f t:Int) (ld:ByteArray) (op bl:Int) (ts ds:ByteArray) (sl:Value):Prop where
 at':At u H h
 cd:NA u
 tn:PU w u H
 b1:u.heap[w.heap.size]?=some (.cells (rI f t ld) 69 (0,0))
 b2:u.heap[w.heap.size+1]?=some (.cells #[Vb Ve op,Vb Ve bl,.string ts,.string ds,sl] 96 (0,0))
variable{f t op bl:Int} {ld ts ds:ByteArray} {sl:Value}
theorem Tx.below(b:Tx w u H h f t ld op bl ts ds sl)(hb:gm u.heap.size u u'):Tx w u' H h f t ld op bl ts ds sl:=
 ⟨b.at'.below hb,b.cd.below hb,Sd b.tn hb,(hb.block _ (gG b.b1)).trans b.b1,(hb.block _ (gG b.b2)).trans b.b2⟩
theorem Tx.host(b:Tx w u H h f t ld op bl ts ds sl)(hH:H<w.heap.size)(h0:(0:Nat)≠H)(h1:(1:Nat)≠H)(k:At u' H h')(tn:PU u u' H):Tx w u' H h' f t ld op bl ts ds sl:=
 ⟨k,b.cd.of (tn.block _ b.cd.lt.1 h0) (tn.block _ b.cd.lt.2 h1),⟨tn.os.trans b.tn.os,tn.tape.trans b.tn.tape,tn.output.trans b.tn.output,bo6 b.tn.size tn.size,fun j hj hn=>(tn.block j (bo9 hj b.tn.size) hn).trans (b.tn.block j hj hn)⟩,(tn.block _ (gG b.b1) (by omega)).trans b.b1,(tn.block _ (gG b.b2) (by omega)).trans b.b2⟩
theorem Tx.set(b:Tx w u H h f t ld op bl ts ds sl)(hH:H<w.heap.size)(h0:(0:Nat)≠H)(h1:(1:Nat)≠H)(j:Nat)(v:Value)(e:h.cells.setIfInBounds j v=h'.cells):Tx w (u.setCell (a_ H j) v) H h' f t ld op bl ts ds sl:=
 b.host hH h0 h1 (b.at'.set j v e) ⟨rfl,rfl,rfl,by simp[World.setCell],fun k hk hn=>bo0 _ _ _ _ hn⟩
theorem aA2(k:At w H h)(c:NA w):Tx w ((w.alloc (.cells (rI f t ld) 69)).alloc (.cells #[Vb Ve op,Vb Ve bl,.string ts,.string ds,sl] 96)) H h f t ld op bl ts ds sl:=by
 have hb:gm w.heap.size w ((w.alloc (.cells (rI f t ld) 69)).alloc (.cells #[Vb Ve op,Vb Ve bl,.string ts,.string ds,sl] 96)):=b1_.alloc (by simp) _;exact⟨k.below hb,c.below hb,⟨hb.os,hb.tape,hb.output,hb.size,fun j hj _=>hb.block j hj⟩,nA w _ _,jq w _ _⟩
def Host.Wv(h:Host)(bl s:Int):Host:={h with last:=bl,whn:=h.now,sent:=s}
theorem Yb{u:fV}{a b n:Nat}{v:Value}{xs:List Value}(o:u.ownsRow a 9 1 v n xs)(hb:b<=a):u.ownsRow b 9 1 v n xs:=
 ⟨o.1,o.2.imp id (fun⟨g,cap,cur,e1,e2,e3⟩=>⟨g,cap,cur,e1,bo6 hb e2,e3⟩)⟩
theorem aA7(k:At w H h)(c:NA w)(hH0:(0:Nat)≠H)(hH1:(1:Nat)≠H)(f:Int)(ld:ByteArray)(hF:0<=f/\f<=65535)(hp:0<=h.port/\h.port<=65535)(hn:0<=h.next/\h.next<=4294967295)(hb:h.block=8)(s wn N j:Nat)(hs:h.sent=s)(hsz:s+j<=1000000)(hw:h.window=wn)(hwz:wn<=8)(hi:h.image.size<=1000000)
  (bl:Int) (ts ds:ByteArray) (sl:Value) (hla:h.last≠bl∨h.whn≠h.now) (hj:j<=wn) (hjb:(((s+j)%65536:Nat):Int)=bl) (hji:∀i,i<j->(((s+i)%65536:Nat):Int)≠bl)
  (hN:N<=wn) (hN1:∀i,i<N->(s+j+i)*8<=h.image.size) (hN2:N=wn∨h.image.size<(s+j+N)*8):
  f_ Vh 42 #[p_ H,.agg (rI f h.port ld),.agg #[Vb Ve 4,Vb Ve bl,.string ts,.string ds,sl]] w fun ee w'=>∃ao cp,ee=.returned (.tuple #[.slice ao N cp,.bool true])/\w'.ownsRow w.heap.size 9 1 (.slice ao N cp) N (Js.strs ((h.Wv bl (s+j:Nat)).WE f (s+j) N))/\At w' H ((h.Wv bl (s+j:Nat)).YP N)/\PU w w' H:=by
 have hlt:=gG k;obtain⟨X,hX⟩:=ex_ ((w.alloc (.cells (rI f h.port ld) 69)).alloc (.cells #[Vb Ve 4,Vb Ve bl,.string ts,.string ds,sl] 96));have HX:Hid (Tx w X H h f h.port ld 4 bl ts ds sl):=M0 (by rw[hX];exact aA2 k c);obtain⟨wI,hwI⟩:∃wI:Int,wI=h.window:=⟨_,rfl⟩;obtain⟨sI,hsI⟩:∃sI:Int,sI=h.sent:=⟨_,rfl⟩;have HC:Hid (∀u h',Tx w u H h' f h.port ld 4 bl ts ds sl->c_ u w.heap.size 0 (Vb Ve f)/\c_ u w.heap.size 1 (Vb Ve h.port)/\c_ u w.heap.size 2 (.string ld)/\c_ u (w.heap.size+1) 0 (Vb Ve 4)/\c_ u (w.heap.size+1) 1 (Vb Ve bl)):=M0 (fun u h' b=>⟨bn0 u _ 0 _ _ _ b.b1,bn0 u _ 1 _ _ _ b.b1,bn0 u _ 2 _ _ _ b.b1,bn0 u _ 0 _ _ _ b.b2,bn0 u _ 1 _ _ _ b.b2⟩);obtain⟨q0,q1,q2,q3,q4⟩:=HC X h HX;have r4:X.cell? (a_ H 4)=some (Vb Ve h.port):=HX.at'.cell 4;have r8:X.cell? (a_ H 8)=some (Vb Vg h.last):=HX.at'.cell 8;have r9:X.cell? (a_ H 9)=some (Vb Vg h.whn):=HX.at'.cell 9;have r10:X.cell? (a_ H 10)=some (Vb Vg h.now):=HX.at'.cell 10;have r6:X.cell? (a_ H 6)=some (Vb Vg wI):=by rw[hwI];exact HX.at'.cell 6
 have f8:=HX.at'.free 8;have f9:=HX.at'.free 9;have hblb:0<=bl/\bl<=65535:=by omega
 have g0:(h.last==bl)=false∨(h.last==bl)=true/\(h.whn==h.now)=false:=by
  by_cases e:h.last=bl
  ·exact bo3 ⟨by simpa using e,by simpa using hla.resolve_left (fun q=>q e)⟩
  exact bo1 (by simpa using e)
 have HW1:Hid (wrap64 (wI+1)=(wn:Int)+1):=M0 (by
  rw[hwI,hw]
  unfold wrap64
  omega)
 have HWN:Hid (wn<=8):=M0 hwz;have hsb:0<=sI/\sI<=1000000:=by rw[hsI,hs];omega
 have HQ:Hid (sI=s/\wI=wn/\h.sent=sI):=M0 ⟨hsI.trans hs,hwI.trans hw,hsI.symm⟩;have HR:Hid ((∀i,i<j->(((s+i)%65536:Nat):Int)≠bl)/\(((s+j)%65536:Nat):Int)=bl/\j<=wn/\s+j<=1000000):=M0 ⟨hji,hjb,hj,hsz⟩;have HB:Hid (∀(u:fV) (h2:Host),At u H h2->NA u->h2=h.Wv bl (s+j:Nat)->f_ Vh 73 #[p_ H,.agg (rI f h.port ld)] u fun ee w'=>∃ao cp,ee=.returned (.slice ao N cp)/\w'.ownsRow u.heap.size 9 1 (.slice ao N cp) N (Js.strs ((h.Wv bl (s+j:Nat)).WE f (s+j) N))/\At w' H ((h.Wv bl (s+j:Nat)).YP N)/\PU u w' H):=M0 (fun u h2 ku cu e=>by
  subst e
  exact am5 ku cu hH0 hH1 f h.port ld hF hp hn hb (s+j) wn N rfl hsz hw hwz hi hN hN1 hN2)
 clear hla hj hjb hji hN hN1 hN2 hs hw hsz hwz hi hwI hsI hb;clear k c
 rcases g0 with g1|⟨g1,g2⟩
 all_goals
  go_enter func42,ntmps42;go_wp2_with fail;rw[<-hX];clear hX;go_quiet (fail);have HS0:Hid (Tx w (((X.drewN nq).setCell (a_ H 8) (Vb Vg bl)).setCell (a_ H 9) (Vb Vg h.now)) H {h with last:=bl,whn:=h.now} f h.port ld 4 bl ts ds sl):=M0 (by
   have b0:=HX.below (below_drewN (bn9 _ _) nq)
   have b1:=b0.set (h':={h with last:=bl}) hlt hH0 hH1 8 (Vb Vg bl) rfl
   exact b1.set hlt hH0 hH1 9 (Vb Vg h.now) rfl)
  go_wp2_with fail;generalize(((X.drewN nq).setCell (a_ H 8) (Vb Vg bl)).setCell (a_ H 9) (Vb Vg h.now))=W0 at HS0 ⊢;clear q0 q1 q2 q3 q4 r4 r6 r8 r9 r10 f8 f9 g1 HX;go_loopg [172] (j+1) (fun gk i wr=>∃(n:Nat) (iv:Int),i=Vb Vg iv/\Hid (n<=j/\gk+n=j+1/\iv=(n:Int))/\Hid (Tx w wr H {h with last:=bl,whn:=h.now} f h.port ld 4 bl ts ds sl))
  case atStart=>exact⟨0,0,rfl,M0 ⟨bp3 _,rfl,rfl⟩,HS0⟩
  obtain⟨n,iv,rfl,HN,HS⟩:=hrel;clear HS0;obtain⟨q0,q1,q2,q3,q4⟩:=HC wr _ HS;have r7:wr.cell? (a_ H 7)=some (Vb Vg sI):=by rw[<-HQ.2.2];exact HS.at'.cell 7
  have f7:=HS.at'.free 7;have hivb:0<=iv/\iv<=8:=by
   have:=HN.1;have:=HN.2.2;have:=HR.2.2.1;have:=gB HWN;omega
  have hlt3:iv<wrap64 (wI+1):=by
   have:=HN.1;have:=HN.2.2;have:=HR.2.2.1;have:=gB HW1;omega
  obtain⟨sv,hsv,HSV⟩:∃sv:Int,IntKind.i64.wrap (sI+iv)=sv/\Hid (sv=(s:Int)+n):=⟨_,rfl,M0 (by
   rw[HQ.1,HN.2.2]
   have:=HQ.1
   have:=HN.2.2
   exact az7 _ (by omega))⟩
  obtain⟨md,hmd,HMD⟩:∃md:Int,sv.tmod 65536=md/\Hid (md=(((s+n)%65536:Nat):Int)):=⟨_,rfl,M0 (by
   rw[bz4 (by have:=gB HSV;omega),gB HSV]
   omega)⟩
  by_cases hnj:n<j
  ·have g1:(md==bl)=false:=by
    rw[gB HMD];simpa using HR.1 n hnj
   go_wp2_with fail;go_quiet (fail);go_wp2;go_roundg (j-n)
   case measure=>have:=HN.2.1;omega
   exact⟨n+1,iv+1,by go_num,M0 ⟨hnj,by have:=HN.2.1;omega,by have:=HN.2.2;omega⟩,M0 (HS.below (below_drewN (bn9 _ _) _))⟩
  have hnj2:n=j:=by have:=HN.1;omega
  have g1:(md==bl)=true:=by
   rw[gB HMD,hnj2];simpa using HR.2.1
  have HS2:Hid (∀nq,Tx w ((wr.drewN nq).setCell (a_ H 7) (Vb Vg sv)) H (h.Wv bl (s+j:Nat)) f h.port ld 4 bl ts ds sl):=M0 (fun nq=>by
   have b0:=HS.below (below_drewN (bn9 _ _) nq)
   refine b0.set hlt hH0 hH1 7 _ ?_
   rw[gB HSV,hnj2]
   rfl)
  clear hnj hnj2;go_wp2_with fail;go_quiet (fail);have HS3:=M0 (HS2 nq);have HCL:=M0 (HB _ _ HS3.at' HS3.cd rfl);obtain⟨p0,p1,p2,p3,p4⟩:=HC _ _ HS3;go_wp2_with fail;refine HCL.mono ?_;rintro ee u9 ⟨ao,cp,rfl,o9,k9,t9⟩;have HF:Hid (u9.ownsRow w.heap.size 9 1 (.slice ao N cp) N (Js.strs ((h.Wv bl (s+j:Nat)).WE f (s+j) N))/\At u9 H ((h.Wv bl (s+j:Nat)).YP N)/\PU w u9 H):=M0 ⟨Yb o9 HS3.tn.size,k9,(HS3.host hlt hH0 hH1 k9 t9).tn⟩;clear o9 k9 t9 HCL HS3 HS2;go_wp2;go_ret2;exact⟨ao,cp,rfl,HF⟩
end Ho
namespace Ho
open Bs Tf
theorem aP5(s:ByteArray)(k:Nat)(c:UInt8)(hk:k<s.size)(hc:s.data.toList[k]?=some c)(x:Int)(hx:x=k)(u:fV):(Instr.index 9 (.string s) (Vb Vg x)).run Vh u=.ok (Vb Vd c.toNat) u:=by
 subst hx;have h2:(k:Int)<(s.size:Int):=by omega
 have h3:s[k]=c:=by
  have q:s.data[k]?=some c:=by rw[<-br1];exact hc
  have hk':k<s.data.size:=hk;rw[bv2 hk']at q;exact bp4 q
 simp[Instr.index,bw4 bs8,asIntOf,h2,hk,go_sem,h3]
def af0(n:Int)(l:List UInt8):Int:=l.foldl (fun n b=>wrap64 (wrap64 (10*n)+((b.toNat:Int)-48)%256)) n
def Yj(n:Int)(fs:pO)(name:List UInt8):Int:=fs.foldl (fun n f=>if f.1=name then af0 n f.2 else n) n
theorem lH(a:Option Addr)(cap:Nat)(fs:pO)(name:List UInt8)(w:fV)(hA:X9 w a fs)(hl:fs.length<=1000)(hz:∀f ∈ fs,f.2.length<=1000):
  f_ Vh 72 #[.slice a fs.length cap,.string ⟨name.toArray⟩] w fun e w'=>e=.returned (Vb Vg (Yj 0 fs name))/\gm w.heap.size w w':=by
 have HA:=M0 hA;have HZ:=M0 hz;obtain⟨nm,hnm⟩:∃nm:ByteArray,nm=⟨name.toArray⟩:=⟨_,rfl⟩;have HNM:=M0 hnm;rw[<-hnm];clear hA hz hnm;go_enter func72,ntmps72;go_wp2;go_loopw [5,11] (fun v i wr=>∃k:Nat,k<=fs.length/\i=Vb Vg k/\v=Vb Vg (Yj 0 (fs.take k) name)/\Hid (gm w.heap.size w wr)) (fun _ i _=>fs.length-(intOf i).toNat)
 case atStart=>exact⟨0,bp3 _,rfl,rfl,M0 (bn9 _ _)⟩
 obtain⟨k,hk,rfl,rfl,HW⟩:=hrel;rename fV=>wr;have hwz:=HW.size
 by_cases hlt:k<fs.length
 ·obtain⟨ad,rfl,c0,c1⟩:=HA.below HW (bn7 _) k hlt
  have hki:(k:Int)<(fs.length:Int):=by omega
  obtain⟨s1,hs1⟩:∃s:ByteArray,s=⟨fs[k].1.toArray⟩:=⟨_,rfl⟩;obtain⟨s2,hs2⟩:∃s:ByteArray,s=⟨fs[k].2.toArray⟩:=⟨_,rfl⟩;rw[<-hs1]at c0;rw[<-hs2]at c1;have hstep:Yj 0 (fs.take (k+1)) name=if fs[k].1=name then af0 (Yj 0 (fs.take k) name) fs[k].2 else Yj 0 (fs.take k) name:=by
   rw[bo8 hlt];unfold Yj;rw[List.foldl_append];rfl
  obtain⟨x,hx⟩:=ex_ (Yj 0 (fs.take k) name);rw[<-hx]at hstep ⊢;have h2l:s2.data.toList=fs[k].2:=by rw[hs2]
  have h2z:s2.size<=1000:=by
   have:=jc s2;rw[h2l]at this;have:=HZ fs[k] (bs4 hlt);omega
  rw[<-h2l]at hstep
  by_cases e:fs[k].1=name
  ·have q:(s1.toList==nm.toList)=true:=by rw[gB HNM,hs1,e];simp
   rw[bp0 e]at hstep;have HST:=M0 hstep;clear e hstep hs1 hs2 hx h2l;obtain⟨X,hX⟩:=ex_ (wr.alloc (.cells #[.string s1,.string s2] 146));have x1:X.cell? (a_ wr.heap.size 1)=some (.string s2):=by rw[hX];exact bn0 _ _ 1 _ _ _ (bn3 wr _)
   have HX:Hid (gm w.heap.size w X):=M0 (by rw[hX];exact HW.alloc hwz _);go_wp2;rw[<-hX];clear hX;go_loopw [5,22] (fun v i wq=>∃j:Nat,j<=s2.size/\i=Vb Vg j/\v=Vb Vg (af0 x (s2.data.toList.take j))/\wq=X) (fun _ i _=>s2.size-(intOf i).toNat)
   case atStart=>exact⟨0,bp3 _,rfl,rfl,rfl⟩
   obtain⟨j,hj,rfl,rfl,rfl⟩:=hrel
   by_cases hjl:j<s2.size
   ·have hji:(j:Int)<(s2.size:Int):=by omega
    have hjd:j<s2.data.toList.length:=by rw[jc];exact hjl
    obtain⟨bb,hbb⟩:=ex_ (s2.data.toList[j]);have ix:∀u,(Instr.index 9 (.string s2) (Vb Vg j)).run Vh u=.ok (Vb Vd bb.toNat) u:=fun u=>aP5 s2 j bb hjl (by rw[bq7 hjd,hbb]) j rfl u;have hst2:af0 x (s2.data.toList.take (j+1))=wrap64 (wrap64 (10*af0 x (s2.data.toList.take j))+((bb.toNat:Int)-48)%256):=by
     rw[bo8 hjd,<-hbb];unfold af0;rw[List.foldl_append];rfl
    obtain⟨y,hy⟩:=ex_ (af0 x (s2.data.toList.take j));rw[<-hy]at hst2 ⊢;have HS2:=M0 hst2;clear hbb hjd hst2 hy;go_wp2;exact⟨⟨j+1,by omega,by go_num,by rw[gB HS2],trivial⟩,by simp[intOf];omega⟩
   have hji: ¬(j:Int)<(s2.size:Int):=by omega
   have HE2:Hid (af0 x (s2.data.toList.take j)=Yj 0 (fs.take (k+1)) name):=M0 (by
    rw[gB HST,bt6 (by rw[jc];omega)])
   go_wp2;exact⟨⟨k+1,by omega,by go_num,by rw[gB HE2],HX⟩,by simp[intOf];omega⟩
  have q:(s1.toList==nm.toList)=false:=by
   rw[gB HNM,hs1];rw[bq0,bq0];simpa using e
  rw[bo4 e]at hstep;have HST:=M0 hstep;clear e hstep hs1 hs2 hx h2l;go_wp2;go_roundw
  case rel=>exact⟨k+1,by omega,by go_num,by rw[gB HST],M0 (HW.alloc hwz _)⟩
  simp[intOf];omega
 have e:k=fs.length:=by omega
 have HE:Hid (Yj 0 (fs.take k) name=Yj 0 fs name):=M0 (by rw[e,br0]);have hki: ¬(k:Int)<(fs.length:Int):=by omega
 clear e;go_wp2;go_ret;exact⟨by rw[gB HE];rfl,HW⟩
end Ho
namespace Ho
open Bs Js
variable{w w' u u':fV} {H:Nat} {h h':Host}
def VC:List UInt8:=[116,115,105,122,101]
def Gp:List UInt8:=[98,108,107,115,105,122,101]
def I1:List UInt8:=[119,105,110,100,111,119,115,105,122,101]
theorem add_block(ad:Addr)(k:Nat):(ad.add k).block=ad.block:=by unfold Addr.add;split<;>rfl
theorem ag6{fs:Tf.pO}{sa:Option Addr}(hA:Tf.X9 w sa fs)(t:PU w u H)(hne:∀ad,sa=some ad->ad.block≠H):Tf.X9 u sa fs:=fun i hi=>by
 obtain⟨ad,e,c0,c1⟩:=hA i hi;have hl:=Tf.CP c0;have hn:(ad.add (i*2)).block≠H:=by rw[add_block];exact hne ad e
 have hb:=t.block _ hl hn;exact⟨ad,e,by rw[bo7 hb];exact c0,by rw[bo7 (w:=w) (a:=(a_ ((ad.add (i*2)).block) ((ad.add (i*2)).off+1))) hb];exact c1⟩
theorem Dm(u:fV)(fr:ByteArray){b:Nat}(hb:b<=u.heap.size):(u.alloc (.cells #[.string fr] 9)).ownsRow b 9 1 (.slice (some (a_ u.heap.size 0)) 1 1) 1 [.string fr]:=
 ⟨rfl,bo3 ⟨u.heap.size,1,#[.string fr],rfl,hb,bn3 u _,bn7 _,by decide,rfl,rfl⟩⟩
theorem aE2(m:Tf.RH):(Tf.U7 m).length<=262144:=by
 unfold Tf.U7
 split
 ·rename_i h
  unfold Tf.UU at h
  split at h
  ·cases h
  split at h
  ·cases h
  split at h
  ·cases h
  omega
 simp
def Host.asked(h:Host):Host:={h with port:=IntKind.u16.wrap (h.port+1),sent:=0,last:= -1}
def Host.Wn(h:Host)(b n:Int):Host:={h.asked with block:=b,window:=n}
theorem au4(k:At w H h)(c:NA w)(hH0:(0:Nat)≠H)(hH1:(1:Nat)≠H)(f:Int)(ld:ByteArray)(hF:0<=f/\f<=65535)(hn:0<=h.next/\h.next<=4294967295)(ho:h.opts=true)(hi:h.image.size<=1000000)
  (fs:Tf.pO) (sa:Option Addr) (sc:Nat) (hfl:fs.length<=1000) (hfz:∀x ∈ fs,x.2.length<=1000) (hA:Tf.X9 w sa fs) (hAH:∀ad,sa=some ad->ad.block≠H) (b n:Nat) (hb:Yj 0 fs Gp=b) (hw:Yj 0 fs I1=n) (hb1:1<=b/\b<=300) (hn1:1<=n/\n<=8):
  f_ Vh 42 #[p_ H,.agg (rI f 69 ld),.agg (rG 1 0 ⟨#[107,101,114,110,101,108]⟩ ⟨#[]⟩ sa fs.length sc)] w fun ee w'=>∃g,ee=.returned (.tuple #[.slice (some (a_ g 0)) 1 1,.bool true])/\w'.ownsRow w.heap.size 9 1 (.slice (some (a_ g 0)) 1 1) 1 [.string ((h.Wn b n).frame h.asked.port f ⟨(Tf.U7 ⟨6,0,[],[],[(VC,dg h.image.size),(Gp,dg b),(I1,dg n)]⟩).toArray⟩ h.next 167772215)]/\At w' H (h.Wn b n).Ww/\PU w w' H:=by
 have hlt:=gG k;obtain⟨sl,hsl⟩:∃sl:Value,sl=.slice sa fs.length sc:=⟨_,rfl⟩;have hHn:H≠w.heap.size:=bo5 hlt;have hHn1:H≠w.heap.size+1:=by omega
 have r4:w.cell? (a_ H 4)=some (Vb Ve h.port):=k.cell 4;have r7:w.cell? (a_ H 7)=some (Vb Vg h.sent):=k.cell 7;have r8:w.cell? (a_ H 8)=some (Vb Vg h.last):=k.cell 8;have f4:=k.free 4;have f7:=k.free 7;have f8:=k.free 8;obtain⟨Y,hY⟩:=ex_ (((w.setCell (a_ H 4) (Vb Ve (IntKind.u16.wrap (h.port+1)))).setCell (a_ H 7) (Vb Vg 0)).setCell (a_ H 8) (Vb Vg (-1)));obtain⟨X,hX⟩:=ex_ ((Y.alloc (.cells (rI f 69 ld) 69)).alloc (.cells (rG 1 0 ⟨#[107,101,114,110,101,108]⟩ ⟨#[]⟩ sa fs.length sc) 96));have HX:Hid (Tx w X H h.asked f 69 ld 1 0 ⟨#[107,101,114,110,101,108]⟩ ⟨#[]⟩ (.slice sa fs.length sc)/\Tf.X9 X sa fs):=M0 (by
  have hz:Y.heap.size=w.heap.size:=by rw[hY];simp[World.setCell]
  have k1:=((k.set (h':={h with port:=IntKind.u16.wrap (h.port+1)}) 4 (Vb Ve (IntKind.u16.wrap (h.port+1))) rfl).set (h':={h with port:=IntKind.u16.wrap (h.port+1),sent:=0}) 7 (Vb Vg 0) rfl).set (h':=h.asked) 8 (Vb Vg (-1)) rfl
  have tn:PU w Y H:=by rw[hY];exact PU.go (PU.go aA aA) aA
  rw[<-hY]at k1
  have c1:NA Y:=c.of (tn.block _ c.lt.1 hH0) (tn.block _ c.lt.2 hH1)
  have q:Tx Y X H h.asked f 69 ld 1 0 ⟨#[107,101,114,110,101,108]⟩ ⟨#[]⟩ (.slice sa fs.length sc):=by rw[hX];exact aA2 k1 c1
  refine⟨⟨q.at',q.cd,PU.go tn q.tn,by rw[<-hz];exact q.b1,by rw[<-hz];exact q.b2⟩,?_⟩
  exact ag6 hA (PU.go tn q.tn) hAH)
 obtain⟨bI,hbI⟩:∃bI:Int,bI=(b:Int):=⟨_,rfl⟩;obtain⟨nI,hnI⟩:∃nI:Int,nI=(n:Int):=⟨_,rfl⟩;have HBI:=M0 hbI;have HNI:=M0 hnI;clear k c hA hbI hnI;go_enter func42,ntmps42;go_wp2_with fail;rw[<-hY,<-hX];clear hX hY r4 r7 r8 f4 f7 f8;go_cut [] (fun wc=>Hid (Tx w wc H (h.Wn b n) f 69 ld 1 0 ⟨#[107,101,114,110,101,108]⟩ ⟨#[]⟩ (.slice sa fs.length sc)/\Tf.X9 wc sa fs));case first=>
  obtain⟨NF,hNF⟩:∃NF:ByteArray->Int,NF=fun nm=>Yj 0 fs nm.data.toList:=⟨_,rfl⟩;have HNB:Hid (∀u (nm:ByteArray),gm X.heap.size X u->f_ Vh 72 #[.slice sa fs.length sc,.string nm] u fun e w'=>e=.returned (Vb Vg (NF nm))/\gm u.heap.size u w'):=M0 (fun u nm hu=>by
   have q:=lH sa sc fs nm.data.toList u (HX.2.below hu (bn7 _)) hfl hfz
   rw[Rd.mQ]at q
   rw[hNF]
   exact q)
  have HNF:Hid (NF ⟨#[98,108,107,115,105,122,101]⟩=b/\NF ⟨#[119,105,110,100,111,119,115,105,122,101]⟩=n):=M0 (by rw[hNF];exact⟨hb,hw⟩);clear hNF;have HS:Hid (∀u,gm X.heap.size X u->c_ u (w.heap.size+1) 4 (.slice sa fs.length sc)/\c_ u H 5 (Vb Vg h.block)/\c_ u H 6 (Vb Vg h.window)/\u.frozen? (a_ H 5)=false/\u.frozen? (a_ H 6)=false):=M0 (fun u hu=>⟨bn0 u _ 4 _ _ _ (HX.1.below hu).b2,(HX.1.below hu).at'.cell 5,(HX.1.below hu).at'.cell 6,(HX.1.below hu).at'.free 5,(HX.1.below hu).at'.free 6⟩);have HV:Hid (gm X.heap.size X X):=M0 (bn9 _ _);clear hb hw hfl hfz;go_region_held3 (fun u=>u.cell? (a_ (w.heap.size+1) 4)=some (.slice sa fs.length sc)) (first|exact(HS _ HV.drew).1|exact(HS _ HBb).1|exact(HS _ HBw).1|(go_keep))
   (first|(go_at_call 72;first|(refine(HNB _ _ HBb).mono ?_;rintro ee uw ⟨rfl,hbw⟩;have HBw:Hid (gm X.heap.size X uw):=M0 (bC0 HBb (hbw.mono HBb.size));obtain⟨d4,d5,d6,d7,d8⟩:=HS _ HBw;clear hbw)|(refine(HNB _ _ HV.drew).mono ?_;rintro ee ub ⟨rfl,hbb⟩;have HBb:Hid (gm X.heap.size X ub):=M0 (bC0 HV.drew (hbb.mono HV.drew.size));obtain⟨b4,b5,b6,b7,b8⟩:=HS _ HBb;clear hbb)))
  all_goals go_wp2
  all_goals go_meet
  all_goals exact M0 (by
   have b0:=HX.1.below HBw
   have b1:=b0.set (h':={h.asked with block:=(b:Int)}) hlt hH0 hH1 5 (Vb Vg (NF ⟨#[98,108,107,115,105,122,101]⟩)) (by rw[HNF.1];rfl)
   have b2:=b1.set (h':=h.Wn b n) hlt hH0 hH1 6 (Vb Vg (NF ⟨#[119,105,110,100,111,119,115,105,122,101]⟩)) (by rw[HNF.2];rfl)
   exact⟨b2,ag6 (HX.2.below HBw (bn7 _)) (PU.go aA aA) hAH⟩)
 rename fV=>wc;have HT:Hid (Tx w wc H (h.Wn b n) f 69 ld 1 0 ⟨#[107,101,114,110,101,108]⟩ ⟨#[]⟩ (.slice sa fs.length sc)):=M0 hcut.1;clear hcut HX;have p1:wc.cell? (a_ w.heap.size 1)=some (Vb Ve 69):=bn0 wc _ 1 _ _ _ HT.b1;have p2:wc.cell? (a_ (w.heap.size+1) 2)=some (.string ⟨#[107,101,114,110,101,108]⟩):=bn0 wc _ 2 _ _ _ HT.b2;have r3:wc.cell? (a_ H 3)=some (.bool true):=by rw[<-ho];exact HT.at'.cell 3
 have r5:wc.cell? (a_ H 5)=some (Vb Vg bI):=by rw[gB HBI];exact HT.at'.cell 5
 have r6:wc.cell? (a_ H 6)=some (Vb Vg nI):=by rw[gB HNI];exact HT.at'.cell 6
 have f5:=HT.at'.free 5;have g5:(bI==0)=false:=by rw[gB HBI];simp;omega
 have g6:(nI==0)=false:=by rw[gB HNI];simp;omega
 have hmn:min bI 300=bI:=by rw[gB HBI];omega
 have HT2:Hid (Tx w (wc.setCell (a_ H 5) (Vb Vg bI)) H (h.Wn b n) f 69 ld 1 0 ⟨#[107,101,114,110,101,108]⟩ ⟨#[]⟩ (.slice sa fs.length sc)):=M0 (HT.set hlt hH0 hH1 5 _ (by rw[gB HBI];rfl));obtain⟨V,hV⟩:=ex_ (wc.setCell (a_ H 5) (Vb Vg bI));rw[<-hV]at HT2;go_wp2_with fail;rw[<-hV];clear hV p1 p2 r3 r5 r6 f5 g5 g6 hmn HT;obtain⟨aB,haB⟩:∃aB:ByteArray,aB=⟨(Tf.U7 ⟨6,0,[],[],[(VC,dg h.image.size),(Gp,dg b),(I1,dg n)]⟩).toArray⟩:=⟨_,rfl⟩;go_cut [8] (fun v8 wd=>v8=.string aB/\Hid (Tx w wd H (h.Wn b n) f 69 ld 1 0 ⟨#[107,101,114,110,101,108]⟩ ⟨#[]⟩ (.slice sa fs.length sc)));case first=>
  obtain⟨DG,hDG⟩:∃DG:Int->ByteArray,DG=fun x=>⟨(dg x.toNat).toArray⟩:=⟨_,rfl⟩;have HDG:Hid (∀(u:fV) (x:Int),0<=x/\x<=1000000->f_ Vh 75 #[Vb Vg x] u fun e w'=>e=.returned (.string (DG x))/\gm u.heap.size u w'):=M0 (fun u x hx=>by
   have q:=ai5 x.toNat (by omega) u
   rw[show((x.toNat:Nat):Int)=x by omega]at q
   rw[hDG];exact q)
  obtain⟨ek,hek⟩:∃ek:Int,ek=Tf.UU ⟨6,0,[],[],[(VC,dg h.image.size),(Gp,dg b),(I1,dg n)]⟩:=⟨_,rfl⟩;have HWT:Hid (∀(u:fV) (g:Nat),u.heap[g]?=some (.cells #[.string ⟨#[116,115,105,122,101]⟩,.string (DG h.image.size),.string ⟨#[98,108,107,115,105,122,101]⟩,.string (DG bI),.string ⟨#[119,105,110,100,111,119,115,105,122,101]⟩,.string (DG nI)] 146 (0,0))->f_ Vh 74 #[.agg (rG 6 0 ⟨#[]⟩ ⟨#[]⟩ (some (a_ g 0)) 3 3)] u fun e w'=>e=.returned (.tuple #[.string aB,Vb Vg ek])/\gm u.heap.size u w'):=M0 (fun u g hg=>by
   rw[haB,hek]
   have l1:=ae5 h.image.size
   have l2:=ae5 b
   have l3:=ae5 n
   refine Tf.Wj 6 0 ⟨#[]⟩ ⟨#[]⟩ (some (a_ g 0)) 3 ⟨6,0,[],[],[(VC,dg h.image.size),(Gp,dg b),(I1,dg n)]⟩ u rfl rfl (by decide) (by decide) rfl rfl ?_ ?_ (by simp) (by simp)
   ·refine ab0 u g 146 VC _ Gp _ I1 _ ?_
    rw[hg,hDG,gB HBI,gB HNI]
    rfl
   simp[Tf.lF,VC,Gp,I1];omega)
  have HCE:Hid (∀u,gm V.heap.size V u->c_ u H 0 (.string h.image)/\c_ u H 5 (Vb Vg bI)/\c_ u H 6 (Vb Vg nI)):=M0 (fun u hu=>⟨(HT2.below hu).at'.cell 0,by rw[gB HBI];exact(HT2.below hu).at'.cell 5,by rw[gB HNI];exact(HT2.below hu).at'.cell 6⟩);have HV:Hid (gm V.heap.size V V):=M0 (bn9 _ _);have hbB:0<=bI/\bI<=1000000:=by rw[gB HBI];omega
  have hnB:0<=nI/\nI<=1000000:=by rw[gB HNI];omega
  have hiB:0<=(h.image.size:Int)/\(h.image.size:Int)<=1000000:=by omega
  clear hDG hek haB hb hw;go_region_held3 (fun u=>c_ u H 0 (.string h.image)/\c_ u H 5 (Vb Vg bI)/\c_ u H 6 (Vb Vg nI)) (first|exact HCE _ HV.drew|exact HCE _ HD5|exact HCE _ (HD3.alloc HD3.size _)|exact HCE _ HD3|exact HCE _ HD2|exact HCE _ HD1)
   (first|(go_at_call 75;refine(HDG _ _ (by first|exact hiB|exact hbB|exact hnB)).mono ?_;rintro ee ud ⟨rfl,hbd⟩;first|(have HD3:Hid (gm V.heap.size V ud):=M0 (HD2.trans (hbd.mono HD2.size));clear hbd)|(have HD2:Hid (gm V.heap.size V ud):=M0 (HD1.trans (hbd.mono HD1.size));clear hbd)|(have HD1:Hid (gm V.heap.size V ud):=M0 (HV.drew.trans (hbd.mono HV.drew.size));clear hbd))|(go_at_call 74;refine(HWT _ _ (bn3 _ _)).mono ?_;rintro ee ue ⟨rfl,hbe⟩;have HD5:Hid (gm V.heap.size V ue):=M0 ((HD3.alloc HD3.size _).trans (hbe.mono (HD3.alloc HD3.size _).size));clear hbe))
  all_goals go_wp2
  all_goals go_meet
  all_goals exact⟨rfl,M0 (HT2.below HD5)⟩
 rename fV=>wd;obtain⟨rfl,HT3⟩:=hcut;clear HT2;obtain⟨fr,hfr⟩:=ex_ ((h.Wn b n).frame h.asked.port f aB h.next 167772215);have hpb:0<=h.asked.port/\h.asked.port<=65535:=QQ (h.port+1);obtain⟨pt,hpt⟩:=ex_ h.asked.port;have HWR:Hid (∀u,Tx w u H (h.Wn b n) f 69 ld 1 0 ⟨#[107,101,114,110,101,108]⟩ ⟨#[]⟩ (.slice sa fs.length sc)->f_ Vh 70 #[p_ H,.agg (rI pt f aB),Vb Vf h.next,Vb Vf 167772215] u fun ee w'=>ee=.returned (.string fr)/\Tx w w' H (h.Wn b n).Ww f 69 ld 1 0 ⟨#[107,101,114,110,101,108]⟩ ⟨#[]⟩ (.slice sa fs.length sc)):=M0 (fun u hu=>by
  rw[hpt]
  refine(Zj hu.at' hu.cd hH0 hH1 h.asked.port f h.next 167772215 aB hpb hF hn (by decide) ?_).mono ?_
  ·rw[haB,strSize]
   exact aE2 _
  rintro ee w' ⟨rfl,k6,t6⟩
  exact⟨by rw[hfr],hu.host hlt hH0 hH1 k6 t6⟩)
 have HCE:Hid (∀u h',h'.port=h.asked.port->h'.next=h.next->Tx w u H h' f 69 ld 1 0 ⟨#[107,101,114,110,101,108]⟩ ⟨#[]⟩ (.slice sa fs.length sc)->c_ u H 4 (Vb Ve pt)/\c_ u H 2 (Vb Vf h.next)/\c_ u w.heap.size 0 (Vb Ve f)):=M0 (fun u h' e1 e2 hu=>⟨by rw[hpt,<-e1];exact hu.at'.cell 4,by rw[<-e2];exact hu.at'.cell 2,bn0 u _ 0 _ _ _ hu.b1⟩);have HFR:=M0 hfr;have HAB:=M0 haB;clear hfr haB hpt hpb;go_wp2_with fail;go_region_held3 (fun u=>c_ u H 4 (Vb Ve pt)/\c_ u H 2 (Vb Vf h.next)/\c_ u w.heap.size 0 (Vb Ve f)) (first|exact HCE _ (h.Wn b n) rfl rfl (HT3.below ((bn9 _ _).drew))|exact HCE _ (h.Wn b n).Ww rfl rfl (H6.below b1_)|exact HCE _ (h.Wn b n).Ww rfl rfl H6)
  (first|(go_at_call 70;refine(HWR _ (HT3.below ((bn9 _ _).drew))).mono ?_;rintro ee u6 ⟨rfl,h6⟩;have H6:=M0 h6;clear h6))
 go_wp2;go_ret2;have q:=H6.below (u':=u6.alloc (.cells #[.string fr] 9)) b1_;refine⟨u6.heap.size,rfl,?_,q.at',q.tn⟩;rw[<-gB HAB,<-gB HFR];exact Dm u6 fr H6.tn.size
theorem Ye(id fr ta fp tp:Int)(ld:ByteArray):(Ip.Db id 64 17 fr ta (Ud.sH fp tp fr ta ld)).size<=1500/\(Ud.sH fp tp fr ta ld).size<=1480:=by
 have hu8:(Ud.sH fp tp fr ta ld).size<=1480:=WI _ _ _ _ _;refine⟨?_,hu8⟩;rw[Zg _ _ _ _ _ _ (by decide) hu8,strSize,Ip.Ls,bn6,Ip.jY,jc];omega
theorem Rm{u u':fV}{g:Nat}{o:Obj}(k:u.heap[g]?=some o)(hb:gm u.heap.size u u'):u'.heap[g]?=some o:=(hb.block g (gG k)).trans k
theorem ac0{fs:Tf.pO}{sa:Option Addr}{sc b:Nat}(o:u.ownsRow b 146 2 (.slice sa fs.length sc) fs.length (Tf.Rf fs)):Tf.X9 u sa fs:=by
 rcases o.2 with⟨h1,h2⟩|⟨g,cap,cur,e1,e2⟩
 ·intro i hi;omega
 injection e1 with e1 _ _
 subst e1;exact Tf.X9.zl (o.cells (g:=g) rfl)
theorem aC0(k:At w H h)(c:NA w)(t0 t1 t2 t3 t4 t5:UInt8)(id fr ta fp:Int)(ld:ByteArray)(hid:0<=id/\id<=65535)(hfr:0<=fr/\fr<=4294967295)(hta:0<=ta/\ta<=4294967295)(hfp:0<=fp/\fp<=65535)(hld:ld.size<=1472)(Z:Ending->fV->Prop)
  (HD:∀u,At u H h->NA u->gm w.heap.size w u->f_ Vh 40 #[p_ H,.agg #[Vb Ve fp,Vb Ve 67,.string ld]] u fun ee w'=>∃v1 v2,ee=.returned (.tuple #[v1,v2])/\Z ee w'):
  f_ Vh 23 #[p_ H,.string (og.ni [t0,t1,t2,t3,t4,t5,2,0,0,0,0,42] 2048 (Ip.Db id 64 17 fr ta (Ud.sH fp 67 fr ta ld)))] w Z:=by
 obtain⟨z1,z2⟩:=Ye id fr ta fp 67 ld;have HE:=M0 (Y4 t0 t1 t2 t3 t4 t5 2 0 0 0 0 42 2048 _ (by decide) (by decide) z1);have HI:=M0 (aN8 id 64 17 fr ta _ hid (by decide) (by decide) hfr hta z2);have HU:=M0 (aG1 fp 67 fr ta ld hfp (by decide) hfr hta hld);have hsz:=(Xj t0 t1 t2 t3 t4 t5 2 0 0 0 0 42 2048 _ (by decide) z1).1;have hmq:∀u,(Op.equalIn 10000 30 (.agg #[Vb Vd 2,Vb Vd 0,Vb Vd 0,Vb Vd 0,Vb Vd 0,Vb Vd 42]) (.agg #[Vb Vd 2,Vb Vd 0,Vb Vd 0,Vb Vd 0,Vb Vd 0,Vb Vd 42])).run Vh u=.ok true u:=fun u=>Sq.Yx 9998 2 0 0 0 0 42 u;generalize og.ni [t0,t1,t2,t3,t4,t5,2,0,0,0,0,42] 2048 (Ip.Db id 64 17 fr ta (Ud.sH fp 67 fr ta ld))=sE at HE hsz ⊢;generalize WR (Ip.Db id 64 17 fr ta (Ud.sH fp 67 fr ta ld))=sI at HE HI;generalize Ud.sH fp 67 fr ta ld=sU at HI HU;have hs60: ¬(sE.size:Int)<60:=by omega
 have HK:=M0 k;have HC:=M0 c;have HDD:=M0 HD;clear k c HD z1 z2 hsz;go_enter func23,ntmps23;go_wp2_with fail;refine on_ (HE _) fun u1 hb1=>?_;have HC1:=M0 (HC.below hb1);obtain⟨g0,g1,g2,g3,g4,g5,_⟩:=gB HC1;have hc0:=HC1.lt.1;have hc1:(0:Nat)≠u1.heap.size:=bo5 hc0;have HB1:=M0 hb1;clear hb1 HE;go_wp2_with fail;obtain⟨eR,heR⟩:∃eR:Array Value,eR=#[Vb Vd t0.toNat,Vb Vd t1.toNat,Vb Vd t2.toNat,Vb Vd t3.toNat,Vb Vd t4.toNat,Vb Vd t5.toNat,Vb Vd 2,Vb Vd 0,Vb Vd 0,Vb Vd 0,Vb Vd 0,Vb Vd 42,Vb Ve 2048,.string sI]:=⟨_,rfl⟩;rw[<-heR];have HER:Hid (eR[12]?=some (Vb Ve 2048)):=M0 (by rw[heR];rfl);have HX1:Hid (gm w.heap.size w (u1.alloc (.cells eR 55))/\(u1.alloc (.cells eR 55)).heap[u1.heap.size]?=some (.cells eR 55 (0,0))):=M0 ⟨HB1.alloc HB1.size _,bn3 u1 _⟩;clear g0 g1 g2 g3 g4 g5 hc0 hc1 hmq heR HC1;refine on_ (HI _) fun u2 hb2=>?_;have HX2:Hid (gm w.heap.size w u2/\u2.heap[u1.heap.size]?=some (.cells eR 55 (0,0))):=M0 ⟨HX1.1.trans (hb2.mono HX1.1.size),Rm HX1.2 hb2⟩;clear hb2 HX1 HI HB1;obtain⟨d1,hd1⟩:=ex_ u1.heap.size;rw[<-hd1]at HX2 ⊢;clear hd1;go_wp2_with fail;have HX3:Hid (gm w.heap.size w (u2.alloc (.cells #[Vb Ve id,Vb Vd 64,Vb Vd 17,Vb Vf fr,Vb Vf ta,.string sU] 59))/\(u2.alloc (.cells #[Vb Ve id,Vb Vd 64,Vb Vd 17,Vb Vf fr,Vb Vf ta,.string sU] 59)).heap[d1]?=some (.cells eR 55 (0,0))/\(u2.alloc (.cells #[Vb Ve id,Vb Vd 64,Vb Vd 17,Vb Vf fr,Vb Vf ta,.string sU] 59)).heap[u2.heap.size]?=some (.cells #[Vb Ve id,Vb Vd 64,Vb Vd 17,Vb Vf fr,Vb Vf ta,.string sU] 59 (0,0))):=M0 ⟨HX2.1.alloc HX2.1.size _,Rm HX2.2 b1_,bn3 u2 _⟩;refine on_ (HU _) fun u3 hb3=>?_;obtain⟨d2,hd2⟩:=ex_ u2.heap.size;have HX4:Hid (gm w.heap.size w u3/\u3.heap[d1]?=some (.cells eR 55 (0,0))/\u3.heap[d2]?=some (.cells #[Vb Ve id,Vb Vd 64,Vb Vd 17,Vb Vf fr,Vb Vf ta,.string sU] 59 (0,0))):=M0 ⟨HX3.1.trans (hb3.mono HX3.1.size),Rm HX3.2.1 hb3,by rw[hd2];exact Rm HX3.2.2 hb3⟩;rw[<-hd2];clear hb3 HX3 HU HX2 hd2;have e12:u3.cell? (a_ d1 12)=some (Vb Ve 2048):=by rw[bn0 u3 _ 12 _ _ _ HX4.2.1];exact HER
 have i2:u3.cell? (a_ d2 2)=some (Vb Vd 17):=bn0 u3 _ 2 _ _ _ HX4.2.2;have n1:=gG HX4.2.1;have n2:=gG HX4.2.2;have n3:d1≠u3.heap.size:=bo5 n1;have n4:d2≠u3.heap.size:=bo5 n2;have HX5:Hid (gm w.heap.size w (u3.alloc (.cells #[Vb Ve fp,Vb Ve 67,.string ld] 69))):=M0 (HX4.1.alloc HX4.1.size _);go_wp2_with fail;refine(HDD _ (HK.below HX5) (HC.below HX5) HX5).mono ?_;rintro ee u4 ⟨v1,v2,rfl,hz⟩;have HZ:=M0 hz;clear hz HDD HX5 HX4;go_wp2;exact HZ
theorem Yz(op fi ti:Int)(a b c d e f a' b' c' d' e' f':UInt8):(WM.vE op [a,b,c,d,e,f] fi [a',b',c',d',e',f'] ti).size<=1500:=by
 unfold WM.vE
 split
 ·rw[strSize]
  simp[WM.GJ,iy,g_,iY]
 show(0:Nat)<=1500;omega
theorem au6(k:At w H h)(c:NA w):
  f_ Vh 23 #[p_ H,.string (og.ni [255,255,255,255,255,255,2,0,0,0,0,42] 2054 (WM.vE 1 [2,0,0,0,0,42] 0 [0,0,0,0,0,0] 167772215))] w fun ee w'=>ee=.returned (.tuple #[.slice none 0 0,.bool true])/\At w' H h/\PU w w' H:=by
 have z1:(WM.vE 1 [2,0,0,0,0,42] 0 [0,0,0,0,0,0] 167772215).size<=1500:=Yz _ _ _ _ _ _ _ _ _ _ _ _ _ _ _;have HE:=M0 (Y4 255 255 255 255 255 255 2 0 0 0 0 42 2054 _ (by decide) (by decide) z1);have HI:=M0 (aG3 1 0 167772215 2 0 0 0 0 42 0 0 0 0 0 0 (bo1 rfl) (by decide) (by decide));have hsz:=(Xj 255 255 255 255 255 255 2 0 0 0 0 42 2054 _ (by decide) z1).1;have hmq:∀u,(Op.equalIn 10000 30 (.agg (rS 2 0 0 0 0 42)) (.agg (rS 2 0 0 0 0 42))).run Vh u=.ok true u:=fun u=>Sq.Yx 9998 2 0 0 0 0 42 u;generalize og.ni [255,255,255,255,255,255,2,0,0,0,0,42] 2054 (WM.vE 1 [2,0,0,0,0,42] 0 [0,0,0,0,0,0] 167772215)=sE at HE hsz ⊢;generalize WR (WM.vE 1 [2,0,0,0,0,42] 0 [0,0,0,0,0,0] 167772215)=sI at HE HI;have hs60: ¬(sE.size:Int)<60:=by omega
 have HK:=M0 k;have HC:=M0 c;clear k c z1 hsz;go_enter func23,ntmps23;go_wp2_with fail;refine on_ (HE _) fun u1 hb1=>?_;have HC1:=M0 (HC.below hb1);obtain⟨g0,g1,g2,g3,g4,g5,_⟩:=gB HC1;have hc0:=HC1.lt.1;have hc1:(0:Nat)≠u1.heap.size:=bo5 hc0;have HB1:=M0 hb1;clear hb1 HE;go_wp2_with fail;clear g0 g1 g2 g3 g4 g5 hc0 hc1;refine on_ (HI _) fun u2 hb2=>?_;have HB2:Hid (gm w.heap.size w u2):=M0 ((HB1.alloc HB1.size _).trans (hb2.mono (HB1.alloc HB1.size _).size));have HC2:=M0 (HC.below HB2);obtain⟨g0,g1,g2,g3,g4,g5,k0,k1,k2,k3,k4,k5⟩:=gB HC2;have hc0:=HC2.lt.1;have hc1:(0:Nat)≠u2.heap.size:=bo5 hc0;have hc2:=HC2.lt.2;have hc3:(1:Nat)≠u2.heap.size:=bo5 hc2;clear hb2 HB1 HI HC1;obtain⟨X,hX⟩:=ex_ (u2.alloc (.cells (rE 1 2 0 0 0 0 42 0 0 0 0 0 0 0 167772215) 87));obtain⟨d2,hd2⟩:=ex_ u2.heap.size;have HX:Hid (gm w.heap.size w X/\X.heap[d2]?=some (.cells (rE 1 2 0 0 0 0 42 0 0 0 0 0 0 0 167772215) 87 (0,0))):=M0 (by rw[hX,hd2];exact⟨HB2.alloc HB2.size _,bn3 u2 _⟩);go_wp2_with fail;rw[<-hX,<-hd2];have y7:X.cell? (a_ d2 7)=some (Vb Vf 0):=bn0 X _ 7 _ _ _ HX.2;clear hX hd2 g0 g1 g2 g3 g4 g5 k0 k1 k2 k3 k4 k5 hc0 hc1 hc2 hc3;go_quiet (fail);go_wp2;go_ret2;have hbw:=below_drewN HX.1 nq;exact⟨rfl,HK.below hbw,⟨hbw.os,hbw.tape,hbw.output,hbw.size,fun j hj _=>hbw.block j hj⟩⟩
theorem aD4(k:At w H h)(c:NA w):
  f_ Vh 23 #[p_ H,.string (og.ni [255,255,255,255,255,255,2,0,0,0,0,42] 2054 (WM.vE 1 [2,0,0,0,0,42] 167772215 [0,0,0,0,0,0] 167772161))] w fun ee w'=>∃g,ee=.returned (.tuple #[.slice (some (a_ g 0)) 1 1,.bool true])/\w'.ownsRow w.heap.size 9 1 (.slice (some (a_ g 0)) 1 1) 1 [.string (og.ni [2,0,0,0,0,42,2,0,0,0,0,7] 2054 (WM.vE 2 [2,0,0,0,0,7] 167772161 [2,0,0,0,0,42] 167772215))]/\At w' H h/\PU w w' H:=by
 have z1:(WM.vE 1 [2,0,0,0,0,42] 167772215 [0,0,0,0,0,0] 167772161).size<=1500:=Yz _ _ _ _ _ _ _ _ _ _ _ _ _ _ _;have HE:=M0 (Y4 255 255 255 255 255 255 2 0 0 0 0 42 2054 _ (by decide) (by decide) z1);have HI:=M0 (aG3 1 167772215 167772161 2 0 0 0 0 42 0 0 0 0 0 0 (bo1 rfl) (by decide) (by decide));have hsz:=(Xj 255 255 255 255 255 255 2 0 0 0 0 42 2054 _ (by decide) z1).1;have hmq:∀u,(Op.equalIn 10000 30 (.agg (rS 2 0 0 0 0 42)) (.agg (rS 2 0 0 0 0 42))).run Vh u=.ok true u:=fun u=>Sq.Yx 9998 2 0 0 0 0 42 u;generalize og.ni [255,255,255,255,255,255,2,0,0,0,0,42] 2054 (WM.vE 1 [2,0,0,0,0,42] 167772215 [0,0,0,0,0,0] 167772161)=sE at HE hsz ⊢;generalize WR (WM.vE 1 [2,0,0,0,0,42] 167772215 [0,0,0,0,0,0] 167772161)=sI at HE HI;have hs60: ¬(sE.size:Int)<60:=by omega
 have HK:=M0 k;have HC:=M0 c;clear k c z1 hsz;obtain⟨fr,hfr⟩:=ex_ (og.ni [2,0,0,0,0,42,2,0,0,0,0,7] 2054 (WM.vE 2 [2,0,0,0,0,7] 167772161 [2,0,0,0,0,42] 167772215));obtain⟨ar,har⟩:=ex_ (WM.vE 2 [2,0,0,0,0,7] 167772161 [2,0,0,0,0,42] 167772215);have HWA:Hid (∀u,f_ Vh 38 #[.agg (rE 2 2 0 0 0 0 7 167772161 2 0 0 0 0 42 167772215)] u fun e w'=>(∃k,e=.returned (.tuple #[.string ar,Vb Vg k]))/\gm u.heap.size u w'):=M0 (fun u=>by
  rw[har]
  exact(WM.Wj 2 2 0 0 0 0 7 167772161 2 0 0 0 0 42 167772215 u (by decide) (by decide) (by decide) (by decide) (by decide) (by decide)).mono (fun e w' h=>⟨⟨_,h.1⟩,h.2⟩))
 have HWE:Hid (∀u,f_ Vh 39 #[.agg (rF 2 0 0 0 0 42 2 0 0 0 0 7 2054 ar)] u fun e w'=>(∃k,e=.returned (.tuple #[.string fr,Vb Vg k]))/\gm u.heap.size u w'):=M0 (fun u=>by
  rw[hfr,<-har]
  refine on_ (og.Wj 2 0 0 0 0 42 2 0 0 0 0 7 2054 ar u (by decide) (by decide) (by rw[har];exact bo6 (Yz _ _ _ _ _ _ _ _ _ _ _ _ _ _ _) (by decide))) fun w' hb=>?_
  exact⟨⟨_,rfl⟩,hb⟩)
 have HFR:=M0 hfr;clear hfr har;go_enter func23,ntmps23;go_wp2_with fail;refine on_ (HE _) fun u1 hb1=>?_;have HC1:=M0 (HC.below hb1);obtain⟨g0,g1,g2,g3,g4,g5,_⟩:=gB HC1;have hc0:=HC1.lt.1;have hc1:(0:Nat)≠u1.heap.size:=bo5 hc0;have HB1:=M0 hb1;clear hb1 HE;go_wp2_with fail;clear g0 g1 g2 g3 g4 g5 hc0 hc1;refine on_ (HI _) fun u2 hb2=>?_;have HB2:Hid (gm w.heap.size w u2):=M0 ((HB1.alloc HB1.size _).trans (hb2.mono (HB1.alloc HB1.size _).size));have HC2:=M0 (HC.below HB2);obtain⟨g0,g1,g2,g3,g4,g5,k0,k1,k2,k3,k4,k5⟩:=gB HC2;have hc0:=HC2.lt.1;have hc1:(0:Nat)≠u2.heap.size:=bo5 hc0;have hc2:=HC2.lt.2;have hc3:(1:Nat)≠u2.heap.size:=bo5 hc2;clear hb2 HB1 HI HC1;obtain⟨X,hX⟩:=ex_ (u2.alloc (.cells (rE 1 2 0 0 0 0 42 167772215 0 0 0 0 0 0 167772161) 87));obtain⟨d2,hd2⟩:=ex_ u2.heap.size;have HX:Hid (gm w.heap.size w X/\X.heap[d2]?=some (.cells (rE 1 2 0 0 0 0 42 167772215 0 0 0 0 0 0 167772161) 87 (0,0))):=M0 (by rw[hX,hd2];exact⟨HB2.alloc HB2.size _,bn3 u2 _⟩);go_wp2_with fail;rw[<-hX];refine(HWA _).mono ?_;rintro ee u3 ⟨⟨ek,rfl⟩,hb3⟩;rw[<-hd2];have HX3:Hid (gm w.heap.size w u3/\u3.heap[d2]?=some (.cells (rE 1 2 0 0 0 0 42 167772215 0 0 0 0 0 0 167772161) 87 (0,0))):=M0 ⟨HX.1.trans (hb3.mono HX.1.size),Rm HX.2 hb3⟩;clear hX hd2 g0 g1 g2 g3 g4 g5 k0 k1 k2 k3 k4 k5 hc0 hc1 hc2 hc3 hb3;have HC3:=M0 (HC.below HX3.1);obtain⟨g0,g1,g2,g3,g4,g5,k0,k1,k2,k3,k4,k5⟩:=gB HC3;go_wp2_with fail;refine(HWE _).mono ?_;rintro ee V ⟨⟨ek2,rfl⟩,hb4⟩;have HX5:Hid (gm w.heap.size w V/\V.heap[d2]?=some (.cells (rE 1 2 0 0 0 0 42 167772215 0 0 0 0 0 0 167772161) 87 (0,0))):=M0 ⟨HX3.1.trans (hb4.mono HX3.1.size),Rm HX3.2 hb4⟩;clear hb4 g0 g1 g2 g3 g4 g5 k0 k1 k2 k3 k4 k5 hmq;have HCE:Hid (∀u,gm V.heap.size V u->u.cell? (a_ d2 7)=some (Vb Vf 167772215)/\u.cell? (a_ d2 14)=some (Vb Vf 167772161)):=M0 (fun u hu=>⟨bn0 u _ 7 _ _ _ (Rm HX5.2 hu),bn0 u _ 14 _ _ _ (Rm HX5.2 hu)⟩);go_wp2_with fail;refine wp_region_held_drew (S:=fun u=>u.cell? (a_ d2 7)=some (Vb Vf 167772215)/\u.cell? (a_ d2 14)=some (Vb Vf 167772161)) (by kernel_rfl) (HCE _ ((bn9 _ _).drew)) (fun hHeld=> ?_);refine tkH_ (i:=0) (v:=(.string fr)) rfl (by kernel_rfl) (fun _ _ _ h=>h) (bo1 ⟨by rfl,?_⟩) hHeld ?_
 ·(intro wz hSz;go_simp)
 try simp only[Act.put,bn4,bn2,bn1,bm7,bm8,bm9]
 refine tkH_ (i:=2) (v:=(.pointer (some (a_ d2 7)))) rfl (by kernel_rfl) (fun _ _ _ h=>h) (bo1 ⟨by rfl,?_⟩) hHeld ?_
 ·(intro wz hSz;go_simp)
 try simp only[Act.put,bn4,bn2,bn1,bm7,bm8,bm9]
 refine tkH_ (i:=3) (v:=(Vb Vf 167772215)) rfl (by kernel_rfl) (fun _ _ _ h=>h) (bo1 ⟨by rfl,?_⟩) hHeld ?_
 ·(intro wz hSz;go_simp)
 try simp only[Act.put,bn4,bn2,bn1,bm7,bm8,bm9]
 refine tkH_ (i:=4) (v:=(.bool true)) rfl (by kernel_rfl) (fun _ _ _ h=>h) (bo1 ⟨by rfl,?_⟩) hHeld ?_
 ·(intro wz hSz;go_simp)
 try simp only[Act.put,bn4,bn2,bn1,bm7,bm8,bm9]
 refine tkH_ (i:=5) (v:=(.bool true)) rfl (by kernel_rfl) (fun _ _ _ h=>h) (bo1 ⟨by rfl,?_⟩) hHeld ?_
 ·(intro wz hSz;go_simp)
 try simp only[Act.put,bn4,bn2,bn1,bm7,bm8,bm9]
 refine tkH_ (i:=6) (v:=(.pointer (some (a_ d2 14)))) rfl (by kernel_rfl) (fun _ _ _ h=>h) (bo1 ⟨by rfl,?_⟩) hHeld ?_
 ·(intro wz hSz;go_simp)
 try simp only[Act.put,bn4,bn2,bn1,bm7,bm8,bm9]
 refine tkH_ (i:=7) (v:=(Vb Vf 167772161)) rfl (by kernel_rfl) (fun _ _ _ h=>h) (bo1 ⟨by rfl,?_⟩) hHeld ?_
 ·(intro wz hSz;go_simp)
 try simp only[Act.put,bn4,bn2,bn1,bm7,bm8,bm9]
 refine tkH_ (i:=8) (v:=(.bool true)) rfl (by kernel_rfl) (fun _ _ _ h=>h) (bo1 ⟨by rfl,?_⟩) hHeld ?_
 ·(intro wz hSz;go_simp)
 try simp only[Act.put,bn4,bn2,bn1,bm7,bm8,bm9]
 refine tkH_ (i:=9) (v:=(.bool true)) rfl (by kernel_rfl) (fun _ _ _ h=>h) (bo1 ⟨by rfl,?_⟩) hHeld ?_
 ·(intro wz hSz;go_simp)
 try simp only[Act.put,bn4,bn2,bn1,bm7,bm8,bm9]
 refine tkH_ (i:=10) (v:=undef) rfl (by kernel_rfl) (fun _ _ _ h=>h) (bo3 ⟨by rfl,rfl⟩) hHeld ?_;try simp only[Act.put,bn4,bn2,bn1,bm7,bm8,bm9]
 refine tkH_ (i:=11) (v:=undef) rfl (by kernel_rfl) (fun _ _ _ h=>h) (bo3 ⟨by rfl,rfl⟩) hHeld ?_;try simp only[Act.put,bn4,bn2,bn1,bm7,bm8,bm9]
 refine tkH_ (i:=12) (v:=undef) rfl (by kernel_rfl) (fun _ _ _ h=>h) (bo3 ⟨by rfl,rfl⟩) hHeld ?_;try simp only[Act.put,bn4,bn2,bn1,bm7,bm8,bm9]
 refine tkH_ (i:=13) (v:=undef) rfl (by kernel_rfl) (fun _ _ _ h=>h) (bo3 ⟨by rfl,rfl⟩) hHeld ?_;try simp only[Act.put,bn4,bn2,bn1,bm7,bm8,bm9]
 refine tkH_ (i:=14) (v:=undef) rfl (by kernel_rfl) (fun _ _ _ h=>h) (bo3 ⟨by rfl,rfl⟩) hHeld ?_;try simp only[Act.put,bn4,bn2,bn1,bm7,bm8,bm9]
 refine tkH_ (i:=15) (v:=undef) rfl (by kernel_rfl) (fun _ _ _ h=>h) (bo3 ⟨by rfl,rfl⟩) hHeld ?_;try simp only[Act.put,bn4,bn2,bn1,bm7,bm8,bm9]
 refine tkH_ (i:=16) (v:=undef) rfl (by kernel_rfl) (fun _ _ _ h=>h) (bo3 ⟨by rfl,rfl⟩) hHeld ?_;try simp only[Act.put,bn4,bn2,bn1,bm7,bm8,bm9]
 refine tkH_ (i:=17) (v:=(.bool true)) rfl (by kernel_rfl) (fun _ _ _ h=>h) (bo1 ⟨by rfl,?_⟩) hHeld ?_
 ·(intro wz hSz;go_simp)
 try simp only[Act.put,bn4,bn2,bn1,bm7,bm8,bm9]
 refine tkH_ (i:=18) (v:=(.bool true)) rfl (by kernel_rfl) (fun _ _ _ h=>h) (bo1 ⟨by rfl,?_⟩) hHeld ?_
 ·(intro wz hSz;go_simp)
 try simp only[Act.put,bn4,bn2,bn1,bm7,bm8,bm9]
 refine wpAnyH_ready (rs:=[1]) (by kernel_rfl) (by simp) ?_;refine AllReadyH.cons rfl (fun K hK=> ?_) AllReadyH.nil;go_simp
 clear hHeld;refine hK.out _ _ ?_ (fun hHeld=> ?_)
 ·exact HCE _ (((bn9 _ _).drew).alloc (bn7 _) _)
 clear hK K;try simp only[Act.put,bn4,bn2,bn1,bm7,bm8,bm9]
 refine tkH_ (i:=19) (v:=(.slice (some (a_ V.heap.size 0)) 1 1)) rfl (by kernel_rfl) (fun _ _ _ h=>h) (bo1 ⟨by rfl,?_⟩) hHeld ?_
 ·(intro wz hSz;go_simp)
 try simp only[Act.put,bn4,bn2,bn1,bm7,bm8,bm9]
 refine tkH_ (i:=20) (v:=(.bool true)) rfl (by kernel_rfl) (fun _ _ _ h=>h) (bo1 ⟨by rfl,?_⟩) hHeld ?_
 ·(intro wz hSz;go_simp)
 try simp only[Act.put,bn4,bn2,bn1,bm7,bm8,bm9]
 refine bw0 (by kernel_rfl) ?_ _;go_wp2;go_ret2;have hbz:gm V.heap.size V (V.drew.alloc (.cells #[.string fr] 9)):=((bn9 _ _).drew).alloc (bn7 _) _;have hbw:=HX5.1.trans (hbz.mono HX5.1.size);refine⟨V.heap.size,rfl,?_,HK.below hbw,⟨hbw.os,hbw.tape,hbw.output,hbw.size,fun j hj _=>hbw.block j hj⟩⟩;rw[gB HFR];exact Dm V.drew _ HX5.1.size
theorem ag3(k:At w H h)(c:NA w)(t0 t1 t2 t3 t4 t5:UInt8)(id fp tp:Int)(ld:ByteArray)(hid:0<=id/\id<=65535)(hta:0<=h.next/\h.next<=4294967295)(hfp:0<=fp/\fp<=65535)(htp:0<=tp/\tp<=65535)(h67:tp≠67)(hld:ld.size<=1472)(g:Tf.RH)(hg:ld=⟨(Tf.U7 g).toArray⟩)(hk:Tf.UU g=0)(hp:Tf.ZO g)(hb:g.block<65536)(Z:Ending->fV->Prop)
  (HD:∀u sa sc,At u H h->NA u->gm w.heap.size w u->Tf.X9 u sa g.fs->(∀ad,sa=some ad->w.heap.size<=ad.block)->f_ Vh 42 #[p_ H,.agg #[Vb Ve fp,Vb Ve tp,.string ld],.agg #[Vb Ve g.op,Vb Ve g.block,.string ⟨g.text.toArray⟩,.string ⟨g.data.toArray⟩,.slice sa g.fs.length sc]] u fun ee w'=>∃v1 v2,ee=.returned (.tuple #[v1,v2])/\Z ee w'):
  f_ Vh 23 #[p_ H,.string (og.ni [t0,t1,t2,t3,t4,t5,2,0,0,0,0,42] 2048 (Ip.Db id 64 17 167772215 h.next (Ud.sH fp tp 167772215 h.next ld)))] w Z:=by
 obtain⟨fr,hfrE⟩:∃fr:Int,fr=167772215:=⟨_,rfl⟩;obtain⟨ta,htaE⟩:∃ta:Int,ta=h.next:=⟨_,rfl⟩;rw[<-hfrE,<-htaE];rw[<-htaE]at hta;have hfr:0<=fr/\fr<=4294967295:=by rw[hfrE];decide
 obtain⟨z1,z2⟩:=Ye id fr ta fp tp ld;have HE:=M0 (Y4 t0 t1 t2 t3 t4 t5 2 0 0 0 0 42 2048 _ (by decide) (by decide) z1);have HI:=M0 (aN8 id 64 17 fr ta _ hid (by decide) (by decide) hfr hta z2);have HU:=M0 (aG1 fp tp fr ta ld hfp htp hfr hta hld);have hsz:=(Xj t0 t1 t2 t3 t4 t5 2 0 0 0 0 42 2048 _ (by decide) z1).1;have hmq:∀u,(Op.equalIn 10000 30 (.agg #[Vb Vd 2,Vb Vd 0,Vb Vd 0,Vb Vd 0,Vb Vd 0,Vb Vd 42]) (.agg #[Vb Vd 2,Vb Vd 0,Vb Vd 0,Vb Vd 0,Vb Vd 0,Vb Vd 42])).run Vh u=.ok true u:=fun u=>Sq.Yx 9998 2 0 0 0 0 42 u;generalize og.ni [t0,t1,t2,t3,t4,t5,2,0,0,0,0,42] 2048 (Ip.Db id 64 17 fr ta (Ud.sH fp tp fr ta ld))=sE at HE hsz ⊢;generalize WR (Ip.Db id 64 17 fr ta (Ud.sH fp tp fr ta ld))=sI at HE HI;generalize Ud.sH fp tp fr ta ld=sU at HI HU;have hs60: ¬(sE.size:Int)<60:=by omega
 have HK:=M0 k;have HC:=M0 c;have HDD:=M0 HD;clear k c HD z1 z2 hsz;have HTW:=M0 (fun u=>aG9 g ld hg hk hp hb (by have:=jc ld;rw[hg]at this;have e:(⟨(Tf.U7 g).toArray⟩:ByteArray).data.toList=Tf.U7 g:=rfl;rw[e]at this;rw[hg]at hld;omega) u);have g67:(tp==67)=false:=by simpa using h67
 have HFR:=M0 hfrE;have HTA:=M0 htaE;clear hg hk hp hb h67 hfrE htaE;go_enter func23,ntmps23;go_wp2_with fail;refine on_ (HE _) fun u1 hb1=>?_;have HC1:=M0 (HC.below hb1);obtain⟨g0,g1,g2,g3,g4,g5,_⟩:=gB HC1;have hc0:=HC1.lt.1;have hc1:(0:Nat)≠u1.heap.size:=bo5 hc0;have HB1:=M0 hb1;clear hb1 HE;go_wp2_with fail;obtain⟨eR,heR⟩:∃eR:Array Value,eR=#[Vb Vd t0.toNat,Vb Vd t1.toNat,Vb Vd t2.toNat,Vb Vd t3.toNat,Vb Vd t4.toNat,Vb Vd t5.toNat,Vb Vd 2,Vb Vd 0,Vb Vd 0,Vb Vd 0,Vb Vd 0,Vb Vd 42,Vb Ve 2048,.string sI]:=⟨_,rfl⟩;rw[<-heR];have HER:Hid (eR[12]?=some (Vb Ve 2048)):=M0 (by rw[heR];rfl);have HX1:Hid (gm w.heap.size w (u1.alloc (.cells eR 55))/\(u1.alloc (.cells eR 55)).heap[u1.heap.size]?=some (.cells eR 55 (0,0))):=M0 ⟨HB1.alloc HB1.size _,bn3 u1 _⟩;clear g0 g1 g2 g3 g4 g5 hc0 hc1 hmq heR HC1;refine on_ (HI _) fun u2 hb2=>?_;have HX2:Hid (gm w.heap.size w u2/\u2.heap[u1.heap.size]?=some (.cells eR 55 (0,0))):=M0 ⟨HX1.1.trans (hb2.mono HX1.1.size),Rm HX1.2 hb2⟩;clear hb2 HX1 HI HB1;obtain⟨d1,hd1⟩:=ex_ u1.heap.size;rw[<-hd1]at HX2 ⊢;clear hd1;go_wp2_with fail;have HX3:Hid (gm w.heap.size w (u2.alloc (.cells #[Vb Ve id,Vb Vd 64,Vb Vd 17,Vb Vf fr,Vb Vf ta,.string sU] 59))/\(u2.alloc (.cells #[Vb Ve id,Vb Vd 64,Vb Vd 17,Vb Vf fr,Vb Vf ta,.string sU] 59)).heap[d1]?=some (.cells eR 55 (0,0))/\(u2.alloc (.cells #[Vb Ve id,Vb Vd 64,Vb Vd 17,Vb Vf fr,Vb Vf ta,.string sU] 59)).heap[u2.heap.size]?=some (.cells #[Vb Ve id,Vb Vd 64,Vb Vd 17,Vb Vf fr,Vb Vf ta,.string sU] 59 (0,0))):=M0 ⟨HX2.1.alloc HX2.1.size _,Rm HX2.2 b1_,bn3 u2 _⟩;refine on_ (HU _) fun u3 hb3=>?_;obtain⟨d2,hd2⟩:=ex_ u2.heap.size;have HX4:Hid (gm w.heap.size w u3/\u3.heap[d1]?=some (.cells eR 55 (0,0))/\u3.heap[d2]?=some (.cells #[Vb Ve id,Vb Vd 64,Vb Vd 17,Vb Vf fr,Vb Vf ta,.string sU] 59 (0,0))):=M0 ⟨HX3.1.trans (hb3.mono HX3.1.size),Rm HX3.2.1 hb3,by rw[hd2];exact Rm HX3.2.2 hb3⟩;rw[<-hd2];clear hb3 HX3 HU HX2 hd2;have e12:u3.cell? (a_ d1 12)=some (Vb Ve 2048):=by rw[bn0 u3 _ 12 _ _ _ HX4.2.1];exact HER
 have i2:u3.cell? (a_ d2 2)=some (Vb Vd 17):=bn0 u3 _ 2 _ _ _ HX4.2.2;have n1:=gG HX4.2.1;have n2:=gG HX4.2.2;have n3:d1≠u3.heap.size:=bo5 n1;have n4:d2≠u3.heap.size:=bo5 n2;have HX5:Hid (gm w.heap.size w (u3.alloc (.cells #[Vb Ve fp,Vb Ve tp,.string ld] 69))):=M0 (HX4.1.alloc HX4.1.size _);go_wp2_with fail;refine(HTW _).mono ?_;rintro ee u4 ⟨sa,sc,rfl,ho4,hb4⟩;obtain⟨d3,hd3⟩:=ex_ u3.heap.size;rw[<-hd3];have HX6:Hid (gm w.heap.size w u4/\u4.heap[d2]?=some (.cells #[Vb Ve id,Vb Vd 64,Vb Vd 17,Vb Vf fr,Vb Vf ta,.string sU] 59 (0,0))/\u4.heap[d3]?=some (.cells #[Vb Ve fp,Vb Ve tp,.string ld] 69 (0,0))/\u4.ownsRow w.heap.size 146 2 (.slice sa g.fs.length sc) g.fs.length (Tf.Rf g.fs)):=M0 (by
  refine⟨HX5.trans (hb4.mono HX5.size),Rm (Rm HX4.2.2 b1_) hb4,by rw[hd3];exact Rm (bn3 u3 _) hb4,?_⟩
  exact⟨ho4.1,ho4.2.imp (fun z=>z) (fun⟨g',cap,cur,e1,e2,e3⟩=>⟨g',cap,cur,e1,bo6 HX5.size e2,e3⟩)⟩)
 clear ho4 hb4 HTW HX5 HX4 e12 i2 n1 n2 n3 n4 hd3;obtain⟨X,hX⟩:=ex_ (u4.alloc (.cells #[Vb Ve g.op,Vb Ve g.block,.string ⟨g.text.toArray⟩,.string ⟨g.data.toArray⟩,.slice sa g.fs.length sc] 96));obtain⟨d4,hd4⟩:=ex_ u4.heap.size;have HX7:Hid (gm w.heap.size w X/\X.heap[d2]?=some (.cells #[Vb Ve id,Vb Vd 64,Vb Vd 17,Vb Vf fr,Vb Vf ta,.string sU] 59 (0,0))/\X.heap[d3]?=some (.cells #[Vb Ve fp,Vb Ve tp,.string ld] 69 (0,0))/\X.heap[d4]?=some (.cells #[Vb Ve g.op,Vb Ve g.block,.string ⟨g.text.toArray⟩,.string ⟨g.data.toArray⟩,.slice sa g.fs.length sc] 96 (0,0))/\X.ownsRow w.heap.size 146 2 (.slice sa g.fs.length sc) g.fs.length (Tf.Rf g.fs)):=M0 (by
  have hb:gm u4.heap.size u4 X:=by rw[hX];exact(bn9 _ _).alloc (bn7 _) _
  exact⟨HX6.1.trans (hb.mono HX6.1.size),Rm HX6.2.1 hb,Rm HX6.2.2.1 hb,by rw[hX,hd4];exact bn3 u4 _,iN HX6.2.2.2 (fun j hj=>hb.block j (HX6.2.2.2.lt j hj).2)⟩)
 go_wp2_with fail;rw[<-hX,<-hd4];clear hX hd4 HX6;have i3:X.cell? (a_ d2 3)=some (Vb Vf 167772215):=by rw[<-gB HFR];exact bn0 X _ 3 _ _ _ HX7.2.1
 have i4:X.cell? (a_ d2 4)=some (Vb Vf ta):=bn0 X _ 4 _ _ _ HX7.2.1;have r2:X.cell? (a_ H 2)=some (Vb Vf ta):=by rw[gB HTA];exact(HK.below HX7.1).cell 2
 go_quiet (fail);obtain⟨Y,hY⟩:=ex_ (X.drewN nq);have HY:Hid (gm w.heap.size w Y/\Y.heap=X.heap):=M0 (by rw[hY];exact⟨below_drewN HX7.1 _,rfl⟩);have y3:Y.heap[d3]?=some (.cells #[Vb Ve fp,Vb Ve tp,.string ld] 69 (0,0)):=by rw[HY.2];exact HX7.2.2.1
 have y4:Y.heap[d4]?=some (.cells #[Vb Ve g.op,Vb Ve g.block,.string ⟨g.text.toArray⟩,.string ⟨g.data.toArray⟩,.slice sa g.fs.length sc] 96 (0,0)):=by rw[HY.2];exact HX7.2.2.2.1
 have HYO:Hid (Y.ownsRow w.heap.size 146 2 (.slice sa g.fs.length sc) g.fs.length (Tf.Rf g.fs)):=M0 (iN HX7.2.2.2.2 (fun j _=>by rw[HY.2]));rw[<-hY];clear hY i3 i4 r2 HX7;obtain⟨a0,a1,a2⟩:=Gf y3;obtain⟨b0,b1,b2,b3,b4⟩:=aF3 y4;have HCL:=M0 (HDD Y sa sc (HK.below HY.1) (HC.below HY.1) HY.1 (ac0 HYO) (fun ad e=>by subst e;exact(HYO.lt ad.block rfl).1));clear y3 y4;go_wp2_with fail;refine HCL.mono ?_;rintro ee u5 ⟨v1,v2,rfl,hz⟩;have HZ:=M0 hz;clear hz HDD HCL;go_wp2;exact HZ
end Ho
end Go.Proofs.YtdgacidndknceaaGreatDoor
