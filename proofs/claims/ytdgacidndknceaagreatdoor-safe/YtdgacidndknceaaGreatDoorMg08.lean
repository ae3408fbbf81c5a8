import Derived.Test.YtdgacidndknceaaGreatDoorMg11
set_option linter.all false
set_option maxHeartbeats 4000000
set_option maxRecDepth 10000
open Go.ChangeShapes Go.WideShapes Go.ChangeAt Go.RowKit
open Go renaming World → fV, Calls → f_
open Go.RowKit renaming Below → gm
open Go.Proofs.Tryz renaming prog → Vh
open Go.Value renaming int → Vb
open Go.IntKind renaming u8 → Vd, u16 → Ve, u32 → Vf, i64 → Vg
open Go.Proofs.Tryz
namespace Go.Proofs.YtdgacidndknceaaGreatDoor
namespace Ho
open Bs Rd Dh
theorem az8:List.replicate 202 (0:UInt8)=List.replicate 10 0++(List.replicate 64 0++List.replicate 128 0):=by decide+kernel
theorem aB6(rep:Bool)(gF cl yo ne:Int)(k0 k1 k2 k3 k4 k5:UInt8)(os:gU)(hx:0<=gF/\gF<=4294967295)(hc:0<=cl/\cl<=4294967295)(hy:0<=yo/\yo<=4294967295)(hn:0<=ne/\ne<=4294967295)(hbad:bad os=false)(hadd:gW [] os=os)(hz:(mr rep gF cl yo ne [k0,k1,k2,k3,k4,k5] os).length<=1472)(u:fV):
  f_ Vh 122 #[.string (nH rep gF cl yo ne [k0,k1,k2,k3,k4,k5] os)] u fun ee w'=>Lp.IE os.length (gT os) u (fun sa sc=>.tuple #[.agg (rA rep gF cl yo ne k0.toNat k1.toNat k2.toNat k3.toNat k4.toNat k5.toNat sa os.length sc),Vb Vg 0]) ee w':=by
 have hS:nH rep gF cl yo ne [k0,k1,k2,k3,k4,k5] os=⟨(rR (mr rep gF cl yo ne [k0,k1,k2,k3,k4,k5] os)).toArray⟩:=by
  unfold nH;rw[aT4 (by rw[hbad];decide),aT4 (by omega)]
 obtain⟨s,hs0⟩:=ex_ (nH rep gF cl yo ne [k0,k1,k2,k3,k4,k5] os);rw[<-hs0];have hs:=hs0.trans hS;clear hs0 hS;obtain⟨z,hzz⟩:=ex_ (List.replicate (300-(mr rep gF cl yo ne [k0,k1,k2,k3,k4,k5] os).length) (0:UInt8));have hfl:(rR (mr rep gF cl yo ne [k0,k1,k2,k3,k4,k5] os)).length<=1772:=by
  unfold rR;rw[aS9,aX7];omega
 have hL:s.data.toList=gJ (TV rep)::1::6::gJ 0::gJ (gF/65536/256)::gJ (gF/65536)::gJ (gF%65536/256)::gJ (gF%65536)::gJ (0/256)::gJ 0::gJ (QD cl/256)::gJ (QD cl)::gJ (cl/65536/256)::gJ (cl/65536)::gJ (cl%65536/256)::gJ (cl%65536)::gJ (yo/65536/256)::gJ (yo/65536)::gJ (yo%65536/256)::gJ (yo%65536)::gJ (ne/65536/256)::gJ (ne/65536)::gJ (ne%65536/256)::gJ (ne%65536)::gJ (0/65536/256)::gJ (0/65536)::gJ (0%65536/256)::gJ (0%65536)::k0::k1::k2::k3::k4::k5::(List.replicate 10 0++(List.replicate 64 0++(List.replicate 128 0++([99,130,83,99]++(jb os++255::z))))):=by
  rw[hs];show rR (mr rep gF cl yo ne [k0,k1,k2,k3,k4,k5] os)=_;unfold rR;rw[<-hzz];unfold mr kG;rw[az8];simp only[NI,iA,g_,iY,iy,aY6,List.flatMap_nil,aV1,ba4,be5,aW7]
 have n4:∀x:Int,0<=x/\x<=4294967295->16777216*((gJ (x/65536/256)).toNat:Int)+65536*((gJ (x/65536)).toNat:Int)+256*((gJ (x%65536/256)).toNat:Int)+((gJ (x%65536)).toNat:Int)=x:=fun x hx=>by rw[lh,lh,lh,lh];omega
 have ob:=Dh.ar6 os z (List.replicate 64 0) (List.replicate 128 0) hbad;rw[hadd]at ob;have hop:(((gJ (TV rep)).toNat:Int)==1||((gJ (TV rep)).toNat:Int)==2)=true:=by cases rep<;>decide
 have hrp:(((gJ (TV rep)).toNat:Int)==2)=rep:=by cases rep<;>decide
 have hlen:s.data.toList.length<=1048576:=by rw[hs];show(rR _).length<=_;omega
 clear hs hzz hfl;refine Lp.Hl s rep gF cl yo ne _ _ _ _ _ _ _ _ u (fun u=>Lp.nK s rep gF cl yo ne _ _ _ _ _ _ _ _ u (fun u' B hr _=> ?_));rw[hL]at hr hlen;have q:=Dh.Ni B _ _ _ _ _ _ _ _ _ _ _ _ _ _ _ _ _ _ _ _ _ _ _ _ _ _ _ _ _ _ _ _ _ _ _ _ _ ⟨(List.replicate 10 0).toArray⟩ ⟨(List.replicate 64 0).toArray⟩ ⟨(List.replicate 128 0).toArray⟩ ⟨#[99,130,83,99]⟩ u' hr hlen rfl rfl rfl rfl rfl rfl rfl rfl rep hop hrp rfl;rw[n4 gF hx,n4 cl hc,n4 yo hy,n4 ne hn]at q;refine q.mono ?_;rintro ee w' ⟨hg,hp⟩;have k0:nE (jb os++255::z) (⟨(List.replicate 64 0).toArray⟩:ByteArray).data.toList (⟨(List.replicate 128 0).toArray⟩:ByteArray).data.toList=0:=ob.1;rw[aU0 k0]at hp;obtain⟨ao,cp,rfl,hown⟩:=hp;have k1:oW (jb os++255::z) (⟨(List.replicate 64 0).toArray⟩:ByteArray).data.toList (⟨(List.replicate 128 0).toArray⟩:ByteArray).data.toList=os:=ob.2;rw[k1]at hown ⊢;exact⟨⟨ao,cp,rfl,hown⟩,hg⟩
theorem aJ6(rep:Bool)(gF cl yo ne:Int)(k0 k1 k2 k3 k4 k5:UInt8)(os:gU)(hx:0<=gF/\gF<=4294967295)(hc:0<=cl/\cl<=4294967295)(hy:0<=yo/\yo<=4294967295)(hn:0<=ne/\ne<=4294967295)(hbad:bad os=false)(hadd:gW [] os=os)(hz:(mr rep gF cl yo ne [k0,k1,k2,k3,k4,k5] os).length<=1472)(u:fV):
  f_ Vh 66 #[.string (nH rep gF cl yo ne [k0,k1,k2,k3,k4,k5] os)] u fun ee w'=>Lp.IE os.length (gT os) u (fun sa sc=>.tuple #[.agg (rA rep gF cl yo ne k0.toNat k1.toNat k2.toNat k3.toNat k4.toNat k5.toNat sa os.length sc),Vb Vg 0]) ee w':=
 Lp.Yq _ rep gF cl yo ne _ _ _ _ _ _ _ _ u (fun u=>aB6 rep gF cl yo ne k0 k1 k2 k3 k4 k5 os hx hc hy hn hbad hadd hz u)
end Ho
namespace Ho
open Bs Js
variable{w w':fV} {H:Nat} {h:Host}
theorem az7(x:Int)(h:0<=x/\x<=9223372036854775807):IntKind.i64.wrap x=x:=by
 rw[bf2];omega
def WN(bl:Nat)(D:List UInt8):Tf.RH:=⟨3,bl,[],D,[]⟩
def YD(bl:Nat)(D:List UInt8):ByteArray:=⟨(Tf.U7 (WN bl D)).toArray⟩
theorem av0(bl:Nat)(D:List UInt8)(h:D.length<=8):(Tf.U7 (WN bl D)).length<=262144:=by
 unfold Tf.U7
 split
 ·show(Tf.Mq (WN bl D)).length<=_
  simp[Tf.Mq,WN,Tf.TU];omega
 simp
def Host.YP(h:Host)(n:Nat):Host:={h with id:=if n=0 then h.id else IntKind.u16.wrap (h.id+n)}
theorem aw1(h:Host)(n:Nat):(h.YP n).Ww=h.YP (n+1):=by
 unfold Host.YP Host.Ww;have e:IntKind.u16.wrap ((if n=0 then h.id else IntKind.u16.wrap (h.id+n))+1)=IntKind.u16.wrap (h.id+((n+1:Nat):Int)):=by
  show _%65536=_%65536
  split
  ·rename_i hn;subst hn;simp
  show((h.id+n)%65536+1)%65536=_;push_cast
  omega
 simp only[e];rfl
def Host.blk(h:Host)(k:Nat):List UInt8:=(h.image.data.toList.drop (k*8)).take 8
def Host.ac2(h:Host)(f:Int)(k:Nat):ByteArray:=h.frame h.port f (YD ((k+1)%65536) (h.blk k)) h.next 167772215
def Host.WE(h:Host)(f:Int)(s n:Nat):List ByteArray:=(List.range n).map fun i=>(h.YP i).ac2 f (s+i)
theorem ar8(h:Host)(f:Int)(s n:Nat):h.WE f s (n+1)=h.WE f s n++ [(h.YP n).ac2 f (s+n)]:=by
 unfold Host.WE;rw[List.range_succ,ba2];rfl
theorem aC5{u:fV}{b n:Nat}{v:Value}{xs:List Value}(o:u.ownsRow (b+1) 9 1 v n xs):u.ownsRow b 9 1 v n xs:=
 ⟨o.1,o.2.imp id (fun⟨g,cap,cur,e1,e2,e3⟩=>⟨g,cap,cur,e1,Nat.le_of_succ_le e2,e3⟩)⟩
theorem as8(img:ByteArray)(k:Nat)(lo mn:Int)(h1:lo=((k*8:Nat):Int))(h2:lo<=img.size)(h3:mn=min (img.size:Int) (((k+1)*8:Nat):Int))(u:fV):
  (Instr.sliceAt 9 (.string img) (some (Vb Vg lo)) (some (Vb Vg mn)) none).run Vh u=.ok (.string ⟨((img.data.toList.drop (k*8)).take 8).toArray⟩) u:=by
 have hl:0<=lo:=by omega
 have hm:lo<=mn:=by omega
 have hz:mn<=(img.size:Int):=by omega
 have e:img.extract lo.toNat mn.toNat=⟨((img.data.toList.drop (k*8)).take 8).toArray⟩:=by
  apply bh7;apply bi2;rw[aY9,bg7];have hls:=jc img;have ea:lo.toNat=k*8:=by omega
  rw[ea];show(img.data.toList.drop (k*8)).take (mn.toNat-k*8)=(img.data.toList.drop (k*8)).take 8
  by_cases hc:(k+1)*8<=img.size
  ·rw[show mn.toNat-k*8=8 by omega]
  rw[aY0 (by rw[aW1];omega),aY0 (by rw[aW1];omega)]
 rw[<-e];clear e h1 h2 h3;go_simp
structure Bk (w u:fV) (H:Nat) (h:Host) (f t:Int) (ld:ByteArray) (v:Value) (n:Nat) (l:List ByteArray):Prop where
 at':At u H h
 cd:NA u
 tn:PU w u H
 bx:u.heap[w.heap.size]?=some (.cells (rI f t ld) 69 (0,0))
 own:u.ownsRow (w.heap.size+1) 9 1 v n (Js.strs l)
variable{u u':fV} {f t:Int} {ld:ByteArray} {v:Value} {n:Nat} {l:List ByteArray}
theorem Bk.below(b:Bk w u H h f t ld v n l)(hb:gm u.heap.size u u'):Bk w u' H h f t ld v n l:=
 ⟨b.at'.below hb,b.cd.below hb,Sd b.tn hb,(hb.block _ (gG b.bx)).trans b.bx,iN b.own (fun j hj=>hb.block j (b.own.lt j hj).2)⟩
theorem Bk.host(b:Bk w u H h f t ld v n l)(hH:H<w.heap.size)(h0:(0:Nat)≠H)(h1:(1:Nat)≠H){h':Host}(k:At u' H h')(tn:PU u u' H):Bk w u' H h' f t ld v n l:=
 ⟨k,b.cd.of (tn.block _ b.cd.lt.1 h0) (tn.block _ b.cd.lt.2 h1),⟨tn.os.trans b.tn.os,tn.tape.trans b.tn.tape,tn.output.trans b.tn.output,aT9 b.tn.size tn.size,fun j hj hn=>(tn.block j (aU1 hj b.tn.size) hn).trans (b.tn.block j hj hn)⟩,(tn.block _ (gG b.bx) (by omega)).trans b.bx,iN b.own (fun j hj=>tn.block j (b.own.lt j hj).2 (by have:=(b.own.lt j hj).1;omega))⟩
theorem Bk.push(b:Bk w u H h f t ld v n l)(hH:H<w.heap.size)(hc:0<w.heap.size/\1<w.heap.size){v':Value}{fr:ByteArray}(o:u'.ownsRow (w.heap.size+1) 9 1 v' (n+1) (Js.strs l++ [.string fr]))(g:u.grownBy u' v.ownBlock):Bk w u' H h f t ld v' (n+1) (l++ [fr]):=by
 have hne:∀j,j<=w.heap.size->some j≠v.ownBlock:=fun j hj e=>by have:=(b.own.lt j e.symm).1;omega
 have hw:=b.tn.size;have hz:=gG b.bx;have e:∀j,j<=w.heap.size->u'.heap[j]?=u.heap[j]?:=fun j hj=>g.block j (by omega) (hne j hj);refine⟨(e H (by omega)).trans b.at',b.cd.of (e _ (ba1 hc.1)) (e _ (ba1 hc.2)),⟨g.os.trans b.tn.os,g.tape.trans b.tn.tape,g.output.trans b.tn.output,aT9 b.tn.size g.size,fun j hj hn=>(e j (by omega)).trans (b.tn.block j hj hn)⟩,(e _ (aS5 _)).trans b.bx,?_⟩;unfold Js.strs at o ⊢;rw[ba2];exact o
theorem am5(k:At w H h)(c:NA w)(hH0:(0:Nat)≠H)(hH1:(1:Nat)≠H)(f t:Int)(ld:ByteArray)(hF:0<=f/\f<=65535)(hp:0<=h.port/\h.port<=65535)(hn:0<=h.next/\h.next<=4294967295)(hb:h.block=8)(s wn N:Nat)(hs:h.sent=s)(hsz:s<=1000000)(hw:h.window=wn)(hwz:wn<=8)(hi:h.image.size<=1000000)
  (hN:N<=wn) (hN1:∀i,i<N->(s+i)*8<=h.image.size) (hN2:N=wn∨h.image.size<(s+N)*8):
  f_ Vh 73 #[p_ H,.agg (rI f t ld)] w fun ee w'=>∃ao cp,ee=.returned (.slice ao N cp)/\w'.ownsRow w.heap.size 9 1 (.slice ao N cp) N (Js.strs (h.WE f s N))/\At w' H (h.YP N)/\PU w w' H:=by
 have hlt:=gG k;have hHn:H≠w.heap.size:=aU4 hlt;obtain⟨sI,hsI⟩:∃sI:Int,sI=h.sent:=⟨_,rfl⟩;obtain⟨wI,hwI⟩:∃wI:Int,wI=h.window:=⟨_,rfl⟩;have c7:w.cell? (a_ H 7)=some (Vb Vg sI):=by rw[hsI];exact k.cell 7
 obtain⟨X,hX⟩:=ex_ (w.alloc (.cells (rI f t ld) 69));have hcl:=c.lt;have HX:Hid (Bk w X H (h.YP 0) f t ld (.slice none 0 0) 0 (h.WE f s 0)):=M0 (by
  have hb2:gm w.heap.size w X:=by rw[hX];exact(aS8 _ _).alloc (aS5 _) _
  exact⟨k.below hb2,c.below hb2,⟨hb2.os,hb2.tape,hb2.output,hb2.size,fun j hj _=>hb2.block j hj⟩,by rw[hX];exact aS6 w _,aV8 _ _ _ _⟩)
 have HQ:Hid (sI=s/\wI=wn/\s<=1000000/\wn<=8/\h.image.size<=1000000/\N<=wn/\(∀i,i<N->(s+i)*8<=h.image.size)/\(N=wn∨h.image.size<(s+N)*8)):=M0 ⟨hsI.trans hs,hwI.trans hw,hsz,hwz,hi,hN,hN1,hN2⟩;have HSW:Hid (h.sent=sI/\h.window=wI/\h.block=8):=M0 ⟨hsI.symm,hwI.symm,hb⟩;clear k c hs hw hsz hwz hi hN hN1 hN2 hsI hwI hb;go_enter func73,ntmps73;go_wp2_with fail;rw[<-hX];clear hX c7;go_loopg [5,6] (N+1) (fun gk v i wr=>∃(n:Nat) (iv:Int) (ao:Option Addr) (cp:Nat),i=Vb Vg iv/\v=.slice ao n cp/\Hid (n<=N/\gk+n=N+1/\iv=(s:Int)+n)/\Hid (Bk w wr H (h.YP n) f t ld (.slice ao n cp) n (h.WE f s n)))
 case atStart=>exact⟨0,sI,none,0,rfl,rfl,M0 ⟨aV3 _,rfl,by rw[HQ.1];simp⟩,HX⟩
 obtain⟨n,iv,ao,cp,rfl,rfl,HN,HS⟩:=hrel;clear HX;have r0:wr.cell? (a_ H 0)=some (.string h.image):=HS.at'.cell 0;have r4:wr.cell? (a_ H 4)=some (Vb Ve h.port):=HS.at'.cell 4;have r2:wr.cell? (a_ H 2)=some (Vb Vf h.next):=HS.at'.cell 2;have r5:wr.cell? (a_ H 5)=some (Vb Vg 8):=by rw[<-HSW.2.2];exact HS.at'.cell 5
 have r6:wr.cell? (a_ H 6)=some (Vb Vg wI):=by rw[<-HSW.2.1];exact HS.at'.cell 6
 have r7:wr.cell? (a_ H 7)=some (Vb Vg sI):=by rw[<-HSW.1];exact HS.at'.cell 7
 obtain⟨X1,hX1,HX1⟩:∃X1:Int,IntKind.i64.wrap (sI+wI)=X1/\Hid (X1=(s:Int)+wn):=⟨_,rfl,M0 (by
  obtain⟨e1,e2,e3,e4,_⟩:=gB HQ
  rw[e1,e2];exact az7 _ (by omega))⟩
 obtain⟨lo,hlo,HLO⟩:∃lo:Int,IntKind.i64.wrap (iv*8)=lo/\Hid (lo=((s:Int)+n)*8):=⟨_,rfl,M0 (by
  obtain⟨e1,e2,e3,e4,e5,e6,_⟩:=gB HQ
  rw[HN.2.2]
  have:=HN.1
  exact az7 _ (by omega))⟩
 by_cases hlt2:n<N
 ·have g1:decide (iv<X1)=true:=by
   have:=HN.2.2;have:=gB HX1;have:=HQ.2.2.2.2.2.1;simp;omega
  have g2:decide (lo<=(h.image.size:Int))=true:=by
   have:=gB HLO;have:=HQ.2.2.2.2.2.2.1 n hlt2;simp;omega
  obtain⟨i1,hi1,HI1⟩:∃i1:Int,IntKind.i64.wrap (iv+1)=i1/\Hid (i1=(s:Int)+n+1):=⟨_,rfl,M0 (by
   obtain⟨e1,e2,e3,e4,e5,e6,_⟩:=gB HQ
   have:=HN.1
   rw[HN.2.2]
   exact az7 _ (by omega))⟩
  obtain⟨bl,hbl,HBL⟩:∃bl:Int,IntKind.u16.wrap i1=bl/\Hid (bl=(((s+n+1)%65536:Nat):Int)):=⟨_,rfl,M0 (by
   rw[gB HI1]
   show((s:Int)+n+1)%65536=_
   omega)⟩
  obtain⟨hi,hhi,HHI⟩:∃hi:Int,IntKind.i64.wrap (i1*8)=hi/\Hid (hi=((s:Int)+n+1)*8):=⟨_,rfl,M0 (by
   obtain⟨e1,e2,e3,e4,e5,e6,_⟩:=gB HQ
   have:=HN.1
   rw[gB HI1]
   exact az7 _ (by omega))⟩
  obtain⟨dS,hdS⟩:∃dS:ByteArray,dS=⟨(h.blk (s+n)).toArray⟩:=⟨_,rfl⟩;obtain⟨mn,hmn,HMN⟩:∃mn:Int,min (h.image.size:Int) hi=mn/\Hid (lo<=mn/\mn<=h.image.size/\mn<=hi):=⟨_,rfl,M0 (by
   have:=gB HLO
   have:=gB HHI
   have:=HQ.2.2.2.2.2.2.1 n hlt2
   omega)⟩
  have hsl:∀u:fV,(Instr.sliceAt 9 (.string h.image) (some (Vb Vg lo)) (some (Vb Vg mn)) none).run Vh u=.ok (.string dS) u:=fun u=>by
   have e1:=gB HLO;have e2:=gB HHI;have e3:=HQ.2.2.2.2.2.2.1 n hlt2;rw[hdS];refine as8 h.image (s+n) lo mn ?_ ?_ ?_ u
   ·omega
   ·omega
   rw[<-hmn,e2];omega
  have HW5:Hid (∀u:fV,f_ Vh 74 #[.agg (rG 3 bl ⟨#[]⟩ dS none 0 0)] u fun ee w'=>ee=.returned (.tuple #[.string (YD ((s+n+1)%65536) (h.blk (s+n))),Vb Vg (Tf.UU (WN ((s+n+1)%65536) (h.blk (s+n))))])/\gm u.heap.size u w'):=M0 (fun u=>by
   refine Tf.Wj 3 bl ⟨#[]⟩ dS none 0 (WN ((s+n+1)%65536) (h.blk (s+n))) u rfl HBL.symm ?_ ?_ rfl (by rw[hdS];rfl) (fun i hi=>absurd hi (by simp[WN])) (by simp[WN,Tf.lF]) (by simp[WN]) ?_
   ·rw[gB HBL];omega
   ·rw[gB HBL];omega
   show(h.blk (s+n)).length<=_
   unfold Host.blk
   rw[aU5];omega)
  obtain⟨aB,haB⟩:=ex_ (YD ((s+n+1)%65536) (h.blk (s+n)));obtain⟨ek,hek⟩:∃ek:Int,ek=Tf.UU (WN ((s+n+1)%65536) (h.blk (s+n))):=⟨_,rfl⟩;rw[<-haB,<-hek]at HW5;have HAB:=M0 haB;clear haB hek hdS;go_wp2_with fail;go_quiet (fail);go_wp2_with fail;obtain⟨V,hV⟩:=ex_ (wr.drewN nq);have HV:Hid (gm wr.heap.size wr V):=M0 (by rw[hV];exact below_drewN (aS8 _ _) _);rw[<-hV];clear hV;have HK5:Hid (∀u,gm wr.heap.size wr u->u.cell? (a_ H 0)=some (.string h.image)/\u.cell? (a_ H 5)=some (Vb Vg 8)):=M0 (fun u hu=>⟨(HS.below hu).at'.cell 0,by rw[<-HSW.2.2];exact(HS.below hu).at'.cell 5⟩);clear r0 r2 r4 r5 r6 r7;go_region_held3 (fun u=>u.cell? (a_ H 0)=some (.string h.image)/\u.cell? (a_ H 5)=some (Vb Vg 8)) (first|exact HK5 _ HV.drew|exact HK5 _ HV|exact HK5 _ HB5)
   (first|(go_at_call 74;refine(HW5 _).mono ?_;rintro ee u5 ⟨rfl,hb5⟩;have HB5:Hid (gm wr.heap.size wr u5):=M0 (HV.drew.trans (hb5.mono HV.drew.size));clear hb5))
  have HS5:Hid (Bk w u5 H (h.YP n) f t ld (.slice ao n cp) n (h.WE f s n)):=M0 (HS.below HB5);obtain⟨fr,hfr⟩:=ex_ ((h.YP n).ac2 f (s+n));have HCE:Hid (∀u,(∃k v q l,Bk w u H (h.YP k) f t ld v q l)->c_ u H 4 (Vb Ve h.port)/\c_ u H 2 (Vb Vf h.next)/\c_ u w.heap.size 0 (Vb Ve f)):=M0 (fun u ⟨k,v,q,l,hu⟩=>⟨hu.at'.cell 4,hu.at'.cell 2,aS3 u _ 0 _ _ _ hu.bx⟩);have HWR:Hid (∀u,Bk w u H (h.YP n) f t ld (.slice ao n cp) n (h.WE f s n)->f_ Vh 70 #[p_ H,.agg (rI h.port f aB),Vb Vf h.next,Vb Vf 167772215] u fun ee w'=>ee=.returned (.string fr)/\Bk w w' H (h.YP (n+1)) f t ld (.slice ao n cp) n (h.WE f s n)):=M0 (fun u hu=>by
   refine(Zj hu.at' hu.cd hH0 hH1 h.port f h.next 167772215 aB hp hF hn (by decide) ?_).mono ?_
   ·rw[gB HAB]
    unfold YD
    rw[strSize]
    exact av0 _ _ (by unfold Host.blk;rw[aU5];omega)
   rintro ee w' ⟨rfl,k6,t6⟩
   rw[aw1]at k6
   refine⟨?_,hu.host hlt hH0 hH1 k6 t6⟩
   rw[hfr,gB HAB];rfl)
  have HNX:Hid (h.WE f s (n+1)=h.WE f s n++ [fr]):=M0 (by rw[ar8,hfr]);clear hfr HK5 HW5 HAB hsl;have HNB:Hid (n+1<=maxLen/\(n+1)*16<=140737488355328):=M0 (by have:=HN.1;obtain⟨_,_,_,e4,_,e6,_⟩:=gB HQ;unfold maxLen;omega);obtain⟨i0,hi0,hz0,hz1,hz2⟩:=aX3 TZ;go_wp2_with fail;refine wp_region_held_drew (S:=fun u=>c_ u H 4 (Vb Ve h.port)/\c_ u H 2 (Vb Vf h.next)/\c_ u w.heap.size 0 (Vb Ve f)) (by kernel_rfl) (HCE _ ⟨_,_,_,_,HS5.below ((aS8 _ _).drew)⟩) (fun hHeld=> ?_);refine tkH_ (i:=0) (v:=(.slice ao n cp)) rfl (by kernel_rfl) (fun _ _ _ h=>h) (aT2 ⟨by rfl,?_⟩) hHeld ?_
  ·(intro wz hSz;go_simp)
  try simp only[Act.put,aS4,aS2,aS1,aR8,aR9,aS0]
  refine tkH_ (i:=1) (v:=(p_ H)) rfl (by kernel_rfl) (fun _ _ _ h=>h) (aT2 ⟨by rfl,?_⟩) hHeld ?_
  ·(intro wz hSz;go_simp)
  try simp only[Act.put,aS4,aS2,aS1,aR8,aR9,aS0]
  refine tkH_ (i:=2) (v:=(p_ H)) rfl (by kernel_rfl) (fun _ _ _ h=>h) (aT2 ⟨by rfl,?_⟩) hHeld ?_
  ·(intro wz hSz;go_simp)
  try simp only[Act.put,aS4,aS2,aS1,aR8,aR9,aS0]
  refine tkH_ (i:=3) (v:=(p_ H)) rfl (by kernel_rfl) (fun _ _ _ h=>h) (aT2 ⟨by rfl,?_⟩) hHeld ?_
  ·(intro wz hSz;go_simp)
  try simp only[Act.put,aS4,aS2,aS1,aR8,aR9,aS0]
  refine tkH_ (i:=4) (v:=(.pointer (some (a_ H 4)))) rfl (by kernel_rfl) (fun _ _ _ h=>h) (aT2 ⟨by rfl,?_⟩) hHeld ?_
  ·(intro wz hSz;go_simp)
  try simp only[Act.put,aS4,aS2,aS1,aR8,aR9,aS0]
  refine tkH_ (i:=5) (v:=(Vb Ve h.port)) rfl (by kernel_rfl) (fun _ _ _ h=>h) (aT2 ⟨by rfl,?_⟩) hHeld ?_
  ·(intro wz hSz;go_simp)
  try simp only[Act.put,aS4,aS2,aS1,aR8,aR9,aS0]
  refine tkH_ (i:=6) (v:=(p_ w.heap.size)) rfl (by kernel_rfl) (fun _ _ _ h=>h) (aT2 ⟨by rfl,?_⟩) hHeld ?_
  ·(intro wz hSz;go_simp)
  try simp only[Act.put,aS4,aS2,aS1,aR8,aR9,aS0]
  refine tkH_ (i:=7) (v:=(Vb Ve f)) rfl (by kernel_rfl) (fun _ _ _ h=>h) (aT2 ⟨by rfl,?_⟩) hHeld ?_
  ·(intro wz hSz;go_simp)
  try simp only[Act.put,aS4,aS2,aS1,aR8,aR9,aS0]
  refine tkH_ (i:=8) (v:=(.string aB)) rfl (by kernel_rfl) (fun _ _ _ h=>h) (aT2 ⟨by rfl,?_⟩) hHeld ?_
  ·(intro wz hSz;go_simp)
  try simp only[Act.put,aS4,aS2,aS1,aR8,aR9,aS0]
  refine tkH_ (i:=9) (v:=(.agg (rI h.port f aB))) rfl (by kernel_rfl) (fun _ _ _ h=>h) (aT2 ⟨by rfl,?_⟩) hHeld ?_
  ·(intro wz hSz;go_simp)
  try simp only[Act.put,aS4,aS2,aS1,aR8,aR9,aS0]
  refine tkH_ (i:=10) (v:=(p_ H)) rfl (by kernel_rfl) (fun _ _ _ h=>h) (aT2 ⟨by rfl,?_⟩) hHeld ?_
  ·(intro wz hSz;go_simp)
  try simp only[Act.put,aS4,aS2,aS1,aR8,aR9,aS0]
  refine tkH_ (i:=11) (v:=(p_ H)) rfl (by kernel_rfl) (fun _ _ _ h=>h) (aT2 ⟨by rfl,?_⟩) hHeld ?_
  ·(intro wz hSz;go_simp)
  try simp only[Act.put,aS4,aS2,aS1,aR8,aR9,aS0]
  refine tkH_ (i:=12) (v:=(.pointer (some (a_ H 2)))) rfl (by kernel_rfl) (fun _ _ _ h=>h) (aT2 ⟨by rfl,?_⟩) hHeld ?_
  ·(intro wz hSz;go_simp)
  try simp only[Act.put,aS4,aS2,aS1,aR8,aR9,aS0]
  refine tkH_ (i:=13) (v:=(Vb Vf h.next)) rfl (by kernel_rfl) (fun _ _ _ h=>h) (aT2 ⟨by rfl,?_⟩) hHeld ?_
  ·(intro wz hSz;go_simp)
  try simp only[Act.put,aS4,aS2,aS1,aR8,aR9,aS0]
  refine wpAnyH_ready (rs:=[14]) (by kernel_rfl) (by simp) ?_;refine AllReadyH.cons rfl (fun K hK=> ?_) AllReadyH.nil;go_simp
  refine on_ (HWR _ (HS5.below ((aS8 _ _).drew))) fun u6 h6=>?_;have H6:=M0 h6;clear h6 hHeld;go_wp2_with fail;refine hK.out _ _ ?_ (fun hHeld=> ?_)
  ·exact HCE _ ⟨_,_,_,_,H6⟩
  clear hK K;try simp only[Act.put,aS4,aS2,aS1,aR8,aR9,aS0]
  refine wpAnyH_ready (rs:=[15]) (by kernel_rfl) (by simp) ?_;refine AllReadyH.cons rfl (fun K hK=> ?_) AllReadyH.nil;go_simp
  have H7:Hid (Bk w (u6.alloc (.cells #[.string fr] 9)) H (h.YP (n+1)) f t ld (.slice ao n cp) n (h.WE f s n)):=M0 (H6.below b1_);clear hHeld;refine hK.out _ _ ?_ (fun hHeld=> ?_)
  ·exact HCE _ ⟨_,_,_,_,H7⟩
  clear hK K;try simp only[Act.put,aS4,aS2,aS1,aR8,aR9,aS0]
  refine wpAnyH_ready (rs:=[16]) (by kernel_rfl) (by simp) ?_;refine AllReadyH.cons rfl (fun K hK=> ?_) AllReadyH.nil;refine yT rfl (.tmp 72) (.tmp 87) 44 rfl (w.heap.size+1) 9 i0 (.string ⟨#[]⟩) 1 16 bf5 hi0 hz0 hz1 hz2 rfl (by decide) (.slice ao n cp) n (Js.strs (h.WE f s n)) ?_ H7.own (a_ u6.heap.size 0) 1 1 [.string fr] ?_ rfl (cell_one_new _ _ _) ?_ ?_ ?_ ?_ ?_
  ·first|rfl|simp[Act.eval]
  ·first|rfl|simp[Act.eval]
  ·intro x hx;simp at hx;subst hx;rfl
  ·exact HNB.1
  ·exact HNB.2
  ·exact ba1 (Nat.lt_of_le_of_lt (gG H6.bx) (by simp))
  intro v8 w8 hown hg;have H8:Hid (Bk w w8 H (h.YP (n+1)) f t ld v8 (n+1) (h.WE f s (n+1))):=M0 (by rw[gB HNX];exact H7.push hlt hcl hown hg);obtain⟨a8,c8,hv8⟩:=Dh.ib hown;subst hv8;clear hown hg hHeld;refine hK.out _ _ ?_ (fun hHeld=> ?_)
  ·exact HCE _ ⟨_,_,_,_,H8⟩
  clear hK K;try simp only[Act.put,aS4,aS2,aS1,aR8,aR9,aS0]
  refine tkH_ (i:=17) (v:=(.slice a8 (n+1) c8)) rfl (by kernel_rfl) (fun _ _ _ h=>h) (aT2 ⟨by rfl,?_⟩) hHeld ?_
  ·(intro wz hSz;go_simp)
  try simp only[Act.put,aS4,aS2,aS1,aR8,aR9,aS0]
  refine aY2 (by kernel_rfl) ?_ _;go_wp2;go_roundg (N-n)
  case measure=>have:=HN.2.1;omega
  exact⟨n+1,i1,a8,c8,rfl,rfl,M0 ⟨hlt2,by have:=HN.2.1;omega,by have:=gB HI1;omega⟩,H8⟩
 have hnN:n=N:=by have:=HN.1;omega
 have HFIN:Hid (wr.ownsRow w.heap.size 9 1 (.slice ao N cp) N (Js.strs (h.WE f s N))/\At wr H (h.YP N)/\PU w wr H):=M0 (by
  have q:=gB HS
  rw[hnN]at q
  exact⟨aC5 q.own,q.at',q.tn⟩)
 have HNN:=M0 hnN
 by_cases hwn:n=wn
 ·have g1:decide (iv<X1)=false:=by
   have:=HN.2.2;have:=gB HX1;simp;omega
  clear hwn hnN hlt2;go_wp2_with fail;go_quiet (fail);go_wp2;go_ret;refine⟨ao,cp,?_,?_,?_,?_⟩
  ·rw[<-gB HNN];rfl
  ·exact iN HFIN.1 (fun _ _=>rfl)
  ·exact HFIN.2.1
  exact Sd HFIN.2.2 (below_drewN (aS8 _ _) _)
 have g1:decide (iv<X1)=true:=by
  have:=HN.2.2;have:=gB HX1;have:=HQ.2.2.2.2.2.1;simp;omega
 have g2:decide (lo<=(h.image.size:Int))=false:=by
  have:=gB HLO
  rcases HQ.2.2.2.2.2.2.2 with e|e
  ·omega
  rw[<-hnN]at e;simp;omega
 clear hwn hnN hlt2;go_wp2_with fail;go_quiet (fail);go_wp2;go_ret;refine⟨ao,cp,?_,?_,?_,?_⟩
 ·rw[<-gB HNN];rfl
 ·exact iN HFIN.1 (fun _ _=>rfl)
 ·exact HFIN.2.1
 exact Sd HFIN.2.2 (below_drewN (aS8 _ _) _)
end Ho
namespace Ho
open Bs Js
variable{w w' u u':fV} {H:Nat} {h h':Host}
structure Tx (w u:fV) (H:Nat) (h:Host) (f t:Int) (ld:ByteArray) (op bl:Int) (ts ds:ByteArray) (sl:Value):Prop where
 at':At u H h
 cd:NA u
 tn:PU w u H
 b1:u.heap[w.heap.size]?=some (.cells (rI f t ld) 69 (0,0))
 b2:u.heap[w.heap.size+1]?=some (.cells #[Vb Ve op,Vb Ve bl,.string ts,.string ds,sl] 96 (0,0))
variable{f t op bl:Int} {ld ts ds:ByteArray} {sl:Value}
theorem Tx.below(b:Tx w u H h f t ld op bl ts ds sl)(hb:gm u.heap.size u u'):Tx w u' H h f t ld op bl ts ds sl:=
 ⟨b.at'.below hb,b.cd.below hb,Sd b.tn hb,(hb.block _ (gG b.b1)).trans b.b1,(hb.block _ (gG b.b2)).trans b.b2⟩
theorem Tx.host(b:Tx w u H h f t ld op bl ts ds sl)(hH:H<w.heap.size)(h0:(0:Nat)≠H)(h1:(1:Nat)≠H)(k:At u' H h')(tn:PU u u' H):Tx w u' H h' f t ld op bl ts ds sl:=
 ⟨k,b.cd.of (tn.block _ b.cd.lt.1 h0) (tn.block _ b.cd.lt.2 h1),⟨tn.os.trans b.tn.os,tn.tape.trans b.tn.tape,tn.output.trans b.tn.output,aT9 b.tn.size tn.size,fun j hj hn=>(tn.block j (aU1 hj b.tn.size) hn).trans (b.tn.block j hj hn)⟩,(tn.block _ (gG b.b1) (by omega)).trans b.b1,(tn.block _ (gG b.b2) (by omega)).trans b.b2⟩
theorem Tx.set(b:Tx w u H h f t ld op bl ts ds sl)(hH:H<w.heap.size)(h0:(0:Nat)≠H)(h1:(1:Nat)≠H)(j:Nat)(v:Value)(e:h.cells.setIfInBounds j v=h'.cells):Tx w (u.setCell (a_ H j) v) H h' f t ld op bl ts ds sl:=
 b.host hH h0 h1 (b.at'.set j v e) ⟨rfl,rfl,rfl,by simp[World.setCell],fun k hk hn=>aS7 _ _ _ _ hn⟩
theorem aA2(k:At w H h)(c:NA w):Tx w ((w.alloc (.cells (rI f t ld) 69)).alloc (.cells #[Vb Ve op,Vb Ve bl,.string ts,.string ds,sl] 96)) H h f t ld op bl ts ds sl:=by
 have hb:gm w.heap.size w ((w.alloc (.cells (rI f t ld) 69)).alloc (.cells #[Vb Ve op,Vb Ve bl,.string ts,.string ds,sl] 96)):=b1_.alloc (by simp) _;exact⟨k.below hb,c.below hb,⟨hb.os,hb.tape,hb.output,hb.size,fun j hj _=>hb.block j hj⟩,nA w _ _,jq w _ _⟩
def Host.Wv(h:Host)(bl s:Int):Host:={h with last:=bl,whn:=h.now,sent:=s}
theorem Yb{u:fV}{a b n:Nat}{v:Value}{xs:List Value}(o:u.ownsRow a 9 1 v n xs)(hb:b<=a):u.ownsRow b 9 1 v n xs:=
 ⟨o.1,o.2.imp id (fun⟨g,cap,cur,e1,e2,e3⟩=>⟨g,cap,cur,e1,aT9 hb e2,e3⟩)⟩
theorem aA7(k:At w H h)(c:NA w)(hH0:(0:Nat)≠H)(hH1:(1:Nat)≠H)(f:Int)(ld:ByteArray)(hF:0<=f/\f<=65535)(hp:0<=h.port/\h.port<=65535)(hn:0<=h.next/\h.next<=4294967295)(hb:h.block=8)(s wn N j:Nat)(hs:h.sent=s)(hsz:s+j<=1000000)(hw:h.window=wn)(hwz:wn<=8)(hi:h.image.size<=1000000)
  (bl:Int) (ts ds:ByteArray) (sl:Value) (hla:h.last≠bl) (hj:j<=wn) (hjb:(((s+j)%65536:Nat):Int)=bl) (hji:∀i,i<j->(((s+i)%65536:Nat):Int)≠bl)
  (hN:N<=wn) (hN1:∀i,i<N->(s+j+i)*8<=h.image.size) (hN2:N=wn∨h.image.size<(s+j+N)*8):
  f_ Vh 42 #[p_ H,.agg (rI f h.port ld),.agg #[Vb Ve 4,Vb Ve bl,.string ts,.string ds,sl]] w fun ee w'=>∃ao cp,ee=.returned (.tuple #[.slice ao N cp,.bool true])/\w'.ownsRow w.heap.size 9 1 (.slice ao N cp) N (Js.strs ((h.Wv bl (s+j:Nat)).WE f (s+j) N))/\At w' H ((h.Wv bl (s+j:Nat)).YP N)/\PU w w' H:=by
 have hlt:=gG k;obtain⟨X,hX⟩:=ex_ ((w.alloc (.cells (rI f h.port ld) 69)).alloc (.cells #[Vb Ve 4,Vb Ve bl,.string ts,.string ds,sl] 96));have HX:Hid (Tx w X H h f h.port ld 4 bl ts ds sl):=M0 (by rw[hX];exact aA2 k c);obtain⟨wI,hwI⟩:∃wI:Int,wI=h.window:=⟨_,rfl⟩;obtain⟨sI,hsI⟩:∃sI:Int,sI=h.sent:=⟨_,rfl⟩;have HC:Hid (∀u h',Tx w u H h' f h.port ld 4 bl ts ds sl->c_ u w.heap.size 0 (Vb Ve f)/\c_ u w.heap.size 1 (Vb Ve h.port)/\c_ u w.heap.size 2 (.string ld)/\c_ u (w.heap.size+1) 0 (Vb Ve 4)/\c_ u (w.heap.size+1) 1 (Vb Ve bl)):=M0 (fun u h' b=>⟨aS3 u _ 0 _ _ _ b.b1,aS3 u _ 1 _ _ _ b.b1,aS3 u _ 2 _ _ _ b.b1,aS3 u _ 0 _ _ _ b.b2,aS3 u _ 1 _ _ _ b.b2⟩);obtain⟨q0,q1,q2,q3,q4⟩:=HC X h HX;have r4:X.cell? (a_ H 4)=some (Vb Ve h.port):=HX.at'.cell 4;have r8:X.cell? (a_ H 8)=some (Vb Vg h.last):=HX.at'.cell 8;have r9:X.cell? (a_ H 9)=some (Vb Vg h.whn):=HX.at'.cell 9;have r10:X.cell? (a_ H 10)=some (Vb Vg h.now):=HX.at'.cell 10;have r6:X.cell? (a_ H 6)=some (Vb Vg wI):=by rw[hwI];exact HX.at'.cell 6
 have f8:=HX.at'.free 8;have f9:=HX.at'.free 9;have hblb:0<=bl/\bl<=65535:=by omega
 have g1:(h.last==bl)=false:=by simpa using hla
 have HW1:Hid (wrap64 (wI+1)=(wn:Int)+1):=M0 (by
  rw[hwI,hw]
  unfold wrap64
  omega)
 have HWN:Hid (wn<=8):=M0 hwz;have hsb:0<=sI/\sI<=1000000:=by rw[hsI,hs];omega
 have HQ:Hid (sI=s/\wI=wn/\h.sent=sI):=M0 ⟨hsI.trans hs,hwI.trans hw,hsI.symm⟩;have HR:Hid ((∀i,i<j->(((s+i)%65536:Nat):Int)≠bl)/\(((s+j)%65536:Nat):Int)=bl/\j<=wn/\s+j<=1000000):=M0 ⟨hji,hjb,hj,hsz⟩;have HB:Hid (∀(u:fV) (h2:Host),At u H h2->NA u->h2=h.Wv bl (s+j:Nat)->f_ Vh 73 #[p_ H,.agg (rI f h.port ld)] u fun ee w'=>∃ao cp,ee=.returned (.slice ao N cp)/\w'.ownsRow u.heap.size 9 1 (.slice ao N cp) N (Js.strs ((h.Wv bl (s+j:Nat)).WE f (s+j) N))/\At w' H ((h.Wv bl (s+j:Nat)).YP N)/\PU u w' H):=M0 (fun u h2 ku cu e=>by
  subst e
  exact am5 ku cu hH0 hH1 f h.port ld hF hp hn hb (s+j) wn N rfl hsz hw hwz hi hN hN1 hN2)
 clear hla hj hjb hji hN hN1 hN2 hs hw hsz hwz hi hwI hsI hb;clear k c;go_enter func42,ntmps42;go_wp2_with fail;rw[<-hX];clear hX;go_quiet (fail);have HS0:Hid (Tx w (((X.drewN nq).setCell (a_ H 8) (Vb Vg bl)).setCell (a_ H 9) (Vb Vg h.now)) H {h with last:=bl,whn:=h.now} f h.port ld 4 bl ts ds sl):=M0 (by
  have b0:=HX.below (below_drewN (aS8 _ _) nq)
  have b1:=b0.set (h':={h with last:=bl}) hlt hH0 hH1 8 (Vb Vg bl) rfl
  exact b1.set hlt hH0 hH1 9 (Vb Vg h.now) rfl)
 go_wp2_with fail;generalize(((X.drewN nq).setCell (a_ H 8) (Vb Vg bl)).setCell (a_ H 9) (Vb Vg h.now))=W0 at HS0 ⊢;clear q0 q1 q2 q3 q4 r4 r6 r8 r9 r10 f8 f9 g1 HX;go_loopg [172] (j+1) (fun gk i wr=>∃(n:Nat) (iv:Int),i=Vb Vg iv/\Hid (n<=j/\gk+n=j+1/\iv=(n:Int))/\Hid (Tx w wr H {h with last:=bl,whn:=h.now} f h.port ld 4 bl ts ds sl))
 case atStart=>exact⟨0,0,rfl,M0 ⟨aV3 _,rfl,rfl⟩,HS0⟩
 obtain⟨n,iv,rfl,HN,HS⟩:=hrel;clear HS0;obtain⟨q0,q1,q2,q3,q4⟩:=HC wr _ HS;have r7:wr.cell? (a_ H 7)=some (Vb Vg sI):=by rw[<-HQ.2.2];exact HS.at'.cell 7
 have f7:=HS.at'.free 7;have hivb:0<=iv/\iv<=8:=by
  have:=HN.1;have:=HN.2.2;have:=HR.2.2.1;have:=gB HWN;omega
 have hlt3:iv<wrap64 (wI+1):=by
  have:=HN.1;have:=HN.2.2;have:=HR.2.2.1;have:=gB HW1;omega
 obtain⟨sv,hsv,HSV⟩:∃sv:Int,IntKind.i64.wrap (sI+iv)=sv/\Hid (sv=(s:Int)+n):=⟨_,rfl,M0 (by
  rw[HQ.1,HN.2.2]
  have:=HQ.1
  have:=HN.2.2
  exact az7 _ (by omega))⟩
 obtain⟨md,hmd,HMD⟩:∃md:Int,sv.tmod 65536=md/\Hid (md=(((s+n)%65536:Nat):Int)):=⟨_,rfl,M0 (by
  rw[bd6 (by have:=gB HSV;omega),gB HSV]
  omega)⟩
 by_cases hnj:n<j
 ·have g1:(md==bl)=false:=by
   rw[gB HMD];simpa using HR.1 n hnj
  go_wp2_with fail;go_quiet (fail);go_wp2;go_roundg (j-n)
  case measure=>have:=HN.2.1;omega
  exact⟨n+1,iv+1,by go_num,M0 ⟨hnj,by have:=HN.2.1;omega,by have:=HN.2.2;omega⟩,M0 (HS.below (below_drewN (aS8 _ _) _))⟩
 have hnj2:n=j:=by have:=HN.1;omega
 have g1:(md==bl)=true:=by
  rw[gB HMD,hnj2];simpa using HR.2.1
 have HS2:Hid (∀nq,Tx w ((wr.drewN nq).setCell (a_ H 7) (Vb Vg sv)) H (h.Wv bl (s+j:Nat)) f h.port ld 4 bl ts ds sl):=M0 (fun nq=>by
  have b0:=HS.below (below_drewN (aS8 _ _) nq)
  refine b0.set hlt hH0 hH1 7 _ ?_
  rw[gB HSV,hnj2]
  rfl)
 clear hnj hnj2;go_wp2_with fail;go_quiet (fail);have HS3:=M0 (HS2 nq);have HCL:=M0 (HB _ _ HS3.at' HS3.cd rfl);obtain⟨p0,p1,p2,p3,p4⟩:=HC _ _ HS3;go_wp2_with fail;refine HCL.mono ?_;rintro ee u9 ⟨ao,cp,rfl,o9,k9,t9⟩;have HF:Hid (u9.ownsRow w.heap.size 9 1 (.slice ao N cp) N (Js.strs ((h.Wv bl (s+j:Nat)).WE f (s+j) N))/\At u9 H ((h.Wv bl (s+j:Nat)).YP N)/\PU w u9 H):=M0 ⟨Yb o9 HS3.tn.size,k9,(HS3.host hlt hH0 hH1 k9 t9).tn⟩;clear o9 k9 t9 HCL HS3 HS2;go_wp2;go_ret2;exact⟨ao,cp,rfl,HF⟩
end Ho
namespace Ho
open Bs Tf
theorem aP5(s:ByteArray)(k:Nat)(c:UInt8)(hk:k<s.size)(hc:s.data.toList[k]?=some c)(x:Int)(hx:x=k)(u:fV):(Instr.index 9 (.string s) (Vb Vg x)).run Vh u=.ok (Vb Vd c.toNat) u:=by
 subst hx;have h2:(k:Int)<(s.size:Int):=by omega
 have h3:s[k]=c:=by
  have q:s.data[k]?=some c:=by rw[<-ba0];exact hc
  have hk':k<s.data.size:=hk;rw[aZ8 hk']at q;exact aU2 q
 simp[Instr.index,bd8 aX8,asIntOf,h2,hk,go_sem,h3]
def af0(n:Int)(l:List UInt8):Int:=l.foldl (fun n b=>wrap64 (wrap64 (10*n)+((b.toNat:Int)-48)%256)) n
def Yj(n:Int)(fs:pO)(name:List UInt8):Int:=fs.foldl (fun n f=>if f.1=name then af0 n f.2 else n) n
theorem lH(a:Option Addr)(cap:Nat)(fs:pO)(name:List UInt8)(w:fV)(hA:X9 w a fs)(hl:fs.length<=1000)(hz:∀f ∈ fs,f.2.length<=1000):
  f_ Vh 72 #[.slice a fs.length cap,.string ⟨name.toArray⟩] w fun e w'=>e=.returned (Vb Vg (Yj 0 fs name))/\gm w.heap.size w w':=by
 have HA:=M0 hA;have HZ:=M0 hz;obtain⟨nm,hnm⟩:∃nm:ByteArray,nm=⟨name.toArray⟩:=⟨_,rfl⟩;have HNM:=M0 hnm;rw[<-hnm];clear hA hz hnm;go_enter func72,ntmps72;go_wp2;go_loopw [5,11] (fun v i wr=>∃k:Nat,k<=fs.length/\i=Vb Vg k/\v=Vb Vg (Yj 0 (fs.take k) name)/\Hid (gm w.heap.size w wr)) (fun _ i _=>fs.length-(intOf i).toNat)
 case atStart=>exact⟨0,aV3 _,rfl,rfl,M0 (aS8 _ _)⟩
 obtain⟨k,hk,rfl,rfl,HW⟩:=hrel;rename fV=>wr;have hwz:=HW.size
 by_cases hlt:k<fs.length
 ·obtain⟨ad,rfl,c0,c1⟩:=HA.below HW (aS5 _) k hlt
  have hki:(k:Int)<(fs.length:Int):=by omega
  obtain⟨s1,hs1⟩:∃s:ByteArray,s=⟨fs[k].1.toArray⟩:=⟨_,rfl⟩;obtain⟨s2,hs2⟩:∃s:ByteArray,s=⟨fs[k].2.toArray⟩:=⟨_,rfl⟩;rw[<-hs1]at c0;rw[<-hs2]at c1;have hstep:Yj 0 (fs.take (k+1)) name=if fs[k].1=name then af0 (Yj 0 (fs.take k) name) fs[k].2 else Yj 0 (fs.take k) name:=by
   rw[aT5 hlt];unfold Yj;rw[List.foldl_append];rfl
  obtain⟨x,hx⟩:=ex_ (Yj 0 (fs.take k) name);rw[<-hx]at hstep ⊢;have h2l:s2.data.toList=fs[k].2:=by rw[hs2]
  have h2z:s2.size<=1000:=by
   have:=jc s2;rw[h2l]at this;have:=HZ fs[k] (aZ6 hlt);omega
  rw[<-h2l]at hstep
  by_cases e:fs[k].1=name
  ·have q:(s1.toList==nm.toList)=true:=by rw[gB HNM,hs1,e];simp
   rw[aU0 e]at hstep;have HST:=M0 hstep;clear e hstep hs1 hs2 hx h2l;obtain⟨X,hX⟩:=ex_ (wr.alloc (.cells #[.string s1,.string s2] 146));have x1:X.cell? (a_ wr.heap.size 1)=some (.string s2):=by rw[hX];exact aS3 _ _ 1 _ _ _ (aS6 wr _)
   have HX:Hid (gm w.heap.size w X):=M0 (by rw[hX];exact HW.alloc hwz _);go_wp2;rw[<-hX];clear hX;go_loopw [5,22] (fun v i wq=>∃j:Nat,j<=s2.size/\i=Vb Vg j/\v=Vb Vg (af0 x (s2.data.toList.take j))/\wq=X) (fun _ i _=>s2.size-(intOf i).toNat)
   case atStart=>exact⟨0,aV3 _,rfl,rfl,rfl⟩
   obtain⟨j,hj,rfl,rfl,rfl⟩:=hrel
   by_cases hjl:j<s2.size
   ·have hji:(j:Int)<(s2.size:Int):=by omega
    have hjd:j<s2.data.toList.length:=by rw[jc];exact hjl
    obtain⟨bb,hbb⟩:=ex_ (s2.data.toList[j]);have ix:∀u,(Instr.index 9 (.string s2) (Vb Vg j)).run Vh u=.ok (Vb Vd bb.toNat) u:=fun u=>aP5 s2 j bb hjl (by rw[aV4 hjd,hbb]) j rfl u;have hst2:af0 x (s2.data.toList.take (j+1))=wrap64 (wrap64 (10*af0 x (s2.data.toList.take j))+((bb.toNat:Int)-48)%256):=by
     rw[aT5 hjd,<-hbb];unfold af0;rw[List.foldl_append];rfl
    obtain⟨y,hy⟩:=ex_ (af0 x (s2.data.toList.take j));rw[<-hy]at hst2 ⊢;have HS2:=M0 hst2;clear hbb hjd hst2 hy;go_wp2;exact⟨⟨j+1,by omega,by go_num,by rw[gB HS2],trivial⟩,by simp[intOf];omega⟩
   have hji: ¬(j:Int)<(s2.size:Int):=by omega
   have HE2:Hid (af0 x (s2.data.toList.take j)=Yj 0 (fs.take (k+1)) name):=M0 (by
    rw[gB HST,aY0 (by rw[jc];omega)])
   go_wp2;exact⟨⟨k+1,by omega,by go_num,by rw[gB HE2],HX⟩,by simp[intOf];omega⟩
  have q:(s1.toList==nm.toList)=false:=by
   rw[gB HNM,hs1];rw[aV2,aV2];simpa using e
  rw[aT4 e]at hstep;have HST:=M0 hstep;clear e hstep hs1 hs2 hx h2l;go_wp2;go_roundw
  case rel=>exact⟨k+1,by omega,by go_num,by rw[gB HST],M0 (HW.alloc hwz _)⟩
  simp[intOf];omega
 have e:k=fs.length:=by omega
 have HE:Hid (Yj 0 (fs.take k) name=Yj 0 fs name):=M0 (by rw[e,aV9]);have hki: ¬(k:Int)<(fs.length:Int):=by omega
 clear e;go_wp2;go_ret;exact⟨by rw[gB HE];rfl,HW⟩
end Ho
end Go.Proofs.YtdgacidndknceaaGreatDoor
