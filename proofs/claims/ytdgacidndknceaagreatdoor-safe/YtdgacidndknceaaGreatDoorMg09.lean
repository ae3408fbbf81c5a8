import Derived.Test.YtdgacidndknceaaGreatDoorMg08
import Derived.Test.YtdgacidndknceaaGreatDoorMg12
set_option linter.all false
set_option maxHeartbeats 8000000
set_option maxRecDepth 20000
open Go.ChangeShapes Go.WideShapes Go.ChangeAt Go.RowKit
open Go renaming World → fV, Calls → f_
open Go.RowKit renaming Below → gm
open Go.Proofs.Tryz renaming prog → Vh
open Go.Value renaming int → Vb
open Go.IntKind renaming u8 → Vd, u16 → Ve, u32 → Vf, i64 → Vg
open Go.Proofs.Tryz
namespace Go.Proofs.YtdgacidndknceaaGreatDoor
namespace Ho
open Bs Js
variable{w0 w w':fV} {Q B H G:Nat} {m m':Mc} {h h':Host}
theorem aA{w:fV}{G:Nat}{j:Nat}{v:Value}:PU w (w.setCell (a_ G j) v) G:=⟨rfl,rfl,rfl,by simp[World.setCell],fun k hk hn=>aS7 _ _ _ _ hn⟩
theorem PU.go{w u u':fV}{b:Nat}(t:PU w u b)(s:PU u u' b):PU w u' b:=⟨s.os.trans t.os,s.tape.trans t.tape,s.output.trans t.output,aT9 t.size s.size,fun k hk hn=>(s.block k (aU1 hk t.size) hn).trans (t.block k hk hn)⟩
theorem ao0{u:fV}{g:Nat}{t:TypeId}{a0 a1 a2 a3 a4 a5 a6 a7 a8 a9 a10:Value}(h:u.heap[g]?=some (.cells #[a0,a1,a2,a3,a4,a5,a6,a7,a8,a9,a10] t (0,0))):
  u.cell? (a_ g 0)=some a0/\u.cell? (a_ g 1)=some a1/\u.cell? (a_ g 2)=some a2/\u.cell? (a_ g 3)=some a3/\u.cell? (a_ g 4)=some a4/\u.cell? (a_ g 5)=some a5/\u.cell? (a_ g 6)=some a6/\u.cell? (a_ g 7)=some a7/\u.cell? (a_ g 8)=some a8/\u.cell? (a_ g 9)=some a9/\u.cell? (a_ g 10)=some a10:=
 ⟨aS3 u g 0 _ _ _ h,aS3 u g 1 _ _ _ h,aS3 u g 2 _ _ _ h,aS3 u g 3 _ _ _ h,aS3 u g 4 _ _ _ h,aS3 u g 5 _ _ _ h,aS3 u g 6 _ _ _ h,aS3 u g 7 _ _ _ h,aS3 u g 8 _ _ _ h,aS3 u g 9 _ _ _ h,aS3 u g 10 _ _ _ h⟩
theorem aA0{Y:fV}{G:Nat}{t:TypeId}{z0 z1 z2 z3 z4 z5 z6 z7 z8 z9 z10:Value}(v2 v3 v4 v5 v6 v7 v8 v9 v10:Value)(h:Y.heap[G]?=some (.cells #[z0,z1,z2,z3,z4,z5,z6,z7,z8,z9,z10] t (0,0))):
  (((((((((Y.setCell (a_ G 3) v3).setCell (a_ G 4) v4).setCell (a_ G 5) v5).setCell (a_ G 6) v6).setCell (a_ G 7) v7).setCell (a_ G 8) v8).setCell (a_ G 9) v9).setCell (a_ G 10) v10).setCell (a_ G 2) v2).heap[G]?=some (.cells #[z0,z1,v2,v3,v4,v5,v6,v7,v8,v9,v10] t (0,0))/\PU Y (((((((((Y.setCell (a_ G 3) v3).setCell (a_ G 4) v4).setCell (a_ G 5) v5).setCell (a_ G 6) v6).setCell (a_ G 7) v7).setCell (a_ G 8) v8).setCell (a_ G 9) v9).setCell (a_ G 10) v10).setCell (a_ G 2) v2) G:=by
 refine⟨?_,PU.go (PU.go (PU.go (PU.go (PU.go (PU.go (PU.go (PU.go aA aA) aA) aA) aA) aA) aA) aA) aA⟩;have q:=gI _ 2 v2 (gI _ 10 v10 (gI _ 9 v9 (gI _ 8 v8 (gI _ 7 v7 (gI _ 6 v6 (gI _ 5 v5 (gI _ 4 v4 (gI _ 3 v3 h))))))));simpa only[aR8,aR9,aS0]using q
theorem af3(k:All w0 w Q B H G m h):f_ Vh 26 #[p_ G,p_ Q] w fun ee w'=>ee=.returned (.bool false)/\PU w w' G/\XB w' G:=by
 obtain⟨n,lo,a,b,c,d,e,f,x,y,hr⟩:=k.lu;have hGl:=gG hr;have r1:=aS3 w G 1 _ _ _ hr;have f1:w.frozen? (a_ G 1)=false:=by simp[World.frozen?,hr]
 have r1':w.cell? (a_ G 1)=some (Vb Vg n):=r1;clear r1;obtain⟨X,hX⟩:=ex_ (w.setCell (a_ G 1) (Vb Vg (wrap64 (n+1))));have HR:Hid (X.heap[G]?=some (.cells (rH none 0 0 (wrap64 (n+1)) lo a b c d e f x y) 81 (0,0))):=M0 (by rw[hX];exact gI w 1 _ hr);have HT:Hid (PU w X G):=M0 (by rw[hX];exact aA);have HA:Hid (All w0 X Q B H G m h):=M0 (k.au8 HT ⟨_,_,_,_,_,_,_,_,_,_,HR⟩);have HL:=M0 (DC HA.bx);clear k hr;go_enter func26,ntmps26;go_wp2_with fail;rw[<-hX];clear hX r1' f1;refine on_ HL fun u1 hb1=>?_;have HR1:Hid (u1.heap[G]?=some (.cells (rH none 0 0 (wrap64 (n+1)) lo a b c d e f x y) 81 (0,0))):=M0 ((hb1.block G (gG HR)).trans HR);have HT1:Hid (PU w u1 G):=M0 (Sd HT hb1);clear hb1 HL HA HR HT;obtain⟨r0,r1,r2,r3,r4,r5,r6,r7,r8,r9,r10⟩:=ao0 HR1;have hGu:=gG HR1;have hGn:G≠u1.heap.size:=aU4 hGu;obtain⟨L,hL⟩:∃L:Int,L=((m.ql.length:Nat):Int):=⟨_,rfl⟩;obtain⟨b0,hb0⟩:=ex_ u1.heap.size;obtain⟨Y,hY⟩:=ex_ (u1.alloc (.cells (rN m.now m.st m.phase m.addr m.boots m.ql.length m.lost m.cached) 48));have HY:Hid (PU w Y G/\Y.heap[G]?=some (.cells (rH none 0 0 (wrap64 (n+1)) lo a b c d e f x y) 81 (0,0))/\Y.heap[b0]?=some (.cells (rN m.now m.st m.phase m.addr m.boots L m.lost m.cached) 48 (0,0))):=M0 (by
  rw[hY,hL,hb0]
  exact⟨Sd HT1 b1_,(aT1 _ _ _ hGu).trans HR1,aS6 u1 _⟩)
 go_wp2_with fail;rw[<-hY,<-hb0];have hbG:b0≠G:=by rw[hb0];exact fun e=>hGn e.symm
 clear hY hb0 hL r0 r1 r2 r3 r4 r5 r6 r7 r8 r9 r10 hGu hGn HR1 HT1;obtain⟨r0,r1,r2,r3,r4,r5,r6,r7,r8,r9,r10⟩:=ao0 HY.2.1;have q0:Y.cell? (a_ b0 0)=some (Vb Vg m.now):=aS3 Y b0 0 _ _ _ HY.2.2;have q3:Y.cell? (a_ b0 3)=some (Vb Vf m.addr):=aS3 Y b0 3 _ _ _ HY.2.2;have q4:Y.cell? (a_ b0 4)=some (Vb Vg m.boots):=aS3 Y b0 4 _ _ _ HY.2.2;have q6:Y.cell? (a_ b0 6)=some (Vb Vg m.lost):=aS3 Y b0 6 _ _ _ HY.2.2;have fz:∀j,Y.frozen? (a_ G j)=false:=fun j=>by simp[World.frozen?,HY.2.1]
 have q1:Y.cell? (a_ b0 1)=some (Vb Vg m.st):=aS3 Y b0 1 _ _ _ HY.2.2;have q2:Y.cell? (a_ b0 2)=some (Vb Vg m.phase):=aS3 Y b0 2 _ _ _ HY.2.2;have q5:Y.cell? (a_ b0 5)=some (Vb Vg L):=aS3 Y b0 5 _ _ _ HY.2.2;have q7:Y.cell? (a_ b0 7)=some (Vb Vg m.cached):=aS3 Y b0 7 _ _ _ HY.2.2;obtain⟨ca,hca⟩:∃ca:Int,ca=((m.cached:Nat):Int):=⟨_,rfl⟩;rw[<-hca]at q7;clear hca;have hcs:(m.st !=b)=true∨(m.st !=b)=false/\(m.phase !=c)=true∨(m.st !=b)=false/\(m.phase !=c)=false/\(L !=f)=true∨(m.st !=b)=false/\(m.phase !=c)=false/\(L !=f)=false/\(ca !=y)=true∨(m.st !=b)=false/\(m.phase !=c)=false/\(L !=f)=false/\(ca !=y)=false:=by
  cases (m.st !=b)<;>cases (m.phase !=c)<;>cases (L !=f)<;>cases (ca !=y)<;>simp
 rcases hcs with g1|⟨g1,g2⟩|⟨g1,g2,g3⟩|⟨g1,g2,g3,g4⟩|⟨g1,g2,g3,g4⟩
 case inl|inr.inl|inr.inr.inl|inr.inr.inr.inl=>
  go_quiet (fail);have HW:Hid (PU w ((((((((((Y.drewN nq).setCell (a_ G 3) (Vb Vg m.now)).setCell (a_ G 4) (Vb Vg m.st)).setCell (a_ G 5) (Vb Vg m.phase)).setCell (a_ G 6) (Vb Vf m.addr)).setCell (a_ G 7) (Vb Vg m.boots)).setCell (a_ G 8) (Vb Vg L)).setCell (a_ G 9) (Vb Vg m.lost)).setCell (a_ G 10) (Vb Vg ca)).setCell (a_ G 2) (Vb Vg 0)) G/\((((((((((Y.drewN nq).setCell (a_ G 3) (Vb Vg m.now)).setCell (a_ G 4) (Vb Vg m.st)).setCell (a_ G 5) (Vb Vg m.phase)).setCell (a_ G 6) (Vb Vf m.addr)).setCell (a_ G 7) (Vb Vg m.boots)).setCell (a_ G 8) (Vb Vg L)).setCell (a_ G 9) (Vb Vg m.lost)).setCell (a_ G 10) (Vb Vg ca)).setCell (a_ G 2) (Vb Vg 0)).heap[G]?=some (.cells (rH none 0 0 (wrap64 (n+1)) 0 m.now m.st m.phase m.addr m.boots L m.lost ca) 81 (0,0))):=M0 (by
   have hd:(Y.drewN nq).heap=Y.heap:=rfl
   have q:=aA0 (Y:=Y.drewN nq) (Vb Vg 0) (Vb Vg m.now) (Vb Vg m.st) (Vb Vg m.phase) (Vb Vf m.addr) (Vb Vg m.boots) (Vb Vg L) (Vb Vg m.lost) (Vb Vg ca) (by rw[hd];exact HY.2.1)
   exact⟨PU.go (Sd HY.1 (below_drewN (aS8 _ _) _)) q.2,q.1⟩)
  go_wp2_with fail;obtain⟨Z,hZ⟩:=ex_ (((((((((((Y.drewN nq).setCell (a_ G 3) (Vb Vg m.now)).setCell (a_ G 4) (Vb Vg m.st)).setCell (a_ G 5) (Vb Vg m.phase)).setCell (a_ G 6) (Vb Vf m.addr)).setCell (a_ G 7) (Vb Vg m.boots)).setCell (a_ G 8) (Vb Vg L)).setCell (a_ G 9) (Vb Vg m.lost)).setCell (a_ G 10) (Vb Vg ca)).setCell (a_ G 2) (Vb Vg 0)));rw[<-hZ]at HW ⊢;clear hZ r0 r1 r2 r3 r4 r5 r6 r7 r8 r9 r10 q0 q1 q2 q3 q4 q5 q6 q7 fz HY;obtain⟨r0,r1,r2,r3,r4,r5,r6,r7,r8,r9,r10⟩:=ao0 HW.2;go_quiet (fail);go_wp2;go_ret;exact⟨rfl,Sd HW.1 (below_drewN (aS8 _ _) _),_,_,_,_,_,_,_,_,_,_,HW.2⟩
 case inr.inr.inr.inr=>
  go_quiet (fail);have HW:Hid (PU w (Y.drewN nq) G/\(Y.drewN nq).heap[G]?=Y.heap[G]?):=M0 ⟨Sd HY.1 (below_drewN (aS8 _ _) _),rfl⟩;go_wp2_with fail;obtain⟨Z,hZ⟩:=ex_ (Y.drewN nq);rw[<-hZ]at HW ⊢;have HV:Hid (Z.heap[G]?=_):=M0 (HW.2.trans HY.2.1);clear hZ r0 r1 r2 r3 r4 r5 r6 r7 r8 r9 r10 q0 q1 q2 q3 q4 q5 q6 q7 fz HY;obtain⟨r0,r1,r2,r3,r4,r5,r6,r7,r8,r9,r10⟩:=ao0 HV;go_quiet (fail);go_wp2;go_ret;exact⟨rfl,Sd HW.1 (below_drewN (aS8 _ _) _),_,_,_,_,_,_,_,_,_,_,HV⟩
end Ho
namespace Ho
open Bs Js
variable{w0 w w':fV} {Q B H G:Nat} {m m':Mc} {h h':Host} {R:fV→(Nat→Prop)→Prop}
def XI(R:fV->(Nat->Prop)->Prop)(m:Mc)(Z:Mc->Prop):Prop:=∀(w:fV) (Q B:Nat),Bx w (iq B m) w Q B m->R w (iq B m)->f_ Vh 17 #[p_ Q,Vb Vg 2] w fun ee w'=>ee=.returned (Vb Vg 1)/\∃mz,Z mz/\Bx w (iq B m) w' Q B mz
def ao6(R:fV->(Nat->Prop)->Prop)(m:Mc)(d:Int)(Z:Mc->Prop):Prop:=∀(w:fV) (Q B:Nat),Bx w (iq B m) w Q B m->R w (iq B m)->f_ Vh 15 #[p_ Q,Vb Vf d] w fun ee w'=>ee=.returned (.tuple #[])/\∃mz,Z mz/\Bx w (iq B m) w' Q B mz
def YC(C:fV->Prop)(h:Host)(f:ByteArray)(l:List ByteArray)(h':Host):Prop:=∀(w:fV) (H:Nat),At w H h->C w->4<=H->f_ Vh 23 #[p_ H,.string f] w fun ee w'=>∃ao cp,ee=.returned (.tuple #[.slice ao l.length cp,.bool true])/\w'.ownsRow w.heap.size 9 1 (.slice ao l.length cp) l.length (Js.strs l)/\At w' H h'/\PU w w' H
def XJ(R:fV->(Nat->Prop)->Prop)(C:fV->Prop)(J J':Mc->Host->Prop):Prop:=∀m h,J m h->∃(f:ByteArray) (l:List ByteArray) (h':Host) (Zs:Nat->Mc->Prop),m.gq=[f]/\YC C h f l h'/\l.length<=8/\(∀s ∈ l,s.size<=2000)/\Zs 0 m.taken/\(∀i (hi:i<l.length) m1,Zs i m1->m1.cq.length<m1.rx/\XI R (m1.put l[i]) (Zs (i+1)))/\∀m1,Zs l.length m1->J' m1 h'
theorem ao5(a b c d e f g h:Int)(u:fV):(Instr.field 48 (.agg (rN a b c d e f g h)) 2).run Vh u=.ok (Vb Vg c) u:=by kernel_rfl
theorem Wm.taken{ao:Option Addr}{cp:Nat}{u u':fV}(k:All w0 u Q B H G m h)(o:u'.ownsRow u.heap.size 9 1 (.slice ao m.gq.length cp) m.gq.length (Js.strs m.gq)):Wm u' B m.taken (.slice ao m.gq.length cp) m.gq:=
 ⟨⟨_,o⟩,fun j hj hf=>by have h1:=k.bx.mx.ik ((Q_ m m.gq.length j).1 hf);have h2:=(o.lt j hj).1;omega⟩
theorem at6(C:fV->Prop)(hC:∀u,gm w0.heap.size w0 u->C u)(hR:∀(u:fV) (Q B H G:Nat) (m:Mc) (h:Host),All w0 u Q B H G m h->R u (iq B m))
  (hbx:Bx w (iq B m) w Q B m) (hho:At w H h) (hbl:gm w0.heap.size w0 w) (hng:4<=w0.heap.size) (huq:w0.heap.size<=Q) (huh:w0.heap.size<=H) (huf:∀k,iq B m k->w0.heap.size<=k)
  (M T:Nat) (hM:M<=100000) (hT:T<=M) (hT0:0<T) (N:Nat->Nat) (hN:∀t,N t<=1000000) (I:Nat->Mc->Host->Prop) (J:Nat->Nat->Mc->Host->Prop) (hI:I 0 m h)
  (hTick:∀t m h,t<T->I t m h->ao6 R m (7*t) (fun mz=>J t 0 mz {h with now:=(t:Int)+1}))
  (hRound:∀t r,t<T->r<N t->XJ R C (J t r) (J t (r+1)))
  (hEnd:∀t m h,t<T->J t (N t) m h->m.gq=[]/\(t+1<T->m.phase≠3/\m.phase≠4/\I (t+1) m h)/\(t+1=T->m.phase=3)):
  f_ Vh 11 #[p_ Q,p_ H,.slice none 0 0,Vb Vg 0,Vb Vg M] w fun ee w'=>ee=.returned (.bool true)/\∃G mz hz,All w0 w' Q B H G mz hz/\J (T-1) (N (T-1)) mz hz:=by
 have HL:=M0 (DC hbx);have HCC:=M0 hC;have HRR:=M0 hR;have HTI:=M0 hTick;have HRO:=M0 hRound;have HEN:=M0 hEnd;have HII:=M0 hI;have HN:=M0 hN;have hlen:=hbl.size;clear hC hR hTick hRound hEnd hI hN;go_enter func11,ntmps11;go_wp2_with fail;refine on_ HL fun u1 hb1=>?_;obtain⟨G,hGe⟩:=ex_ u1.heap.size;have HA0:Hid (∃mm hh,All w0 (u1.alloc (.cells (rH none 0 0 0 0 m.now m.st m.phase m.addr m.boots m.ql.length m.lost m.cached) 81)) Q B H G mm hh/\I 0 mm hh):=M0 (by
  have hb2:gm u1.heap.size u1 (u1.alloc (.cells (rH none 0 0 0 0 m.now m.st m.phase m.addr m.boots m.ql.length m.lost m.cached) 81)):=(aS8 _ _).alloc (aS5 _) _
  have hb3:=hb1.trans (hb2.mono hb1.size)
  exact⟨m,h,⟨(hbx.below hb3).base,hho.below hb3,⟨_,_,_,_,_,_,_,_,_,_,by rw[hGe];exact aS6 u1 _⟩,hbl.trans (hb3.mono hbl.size),hng,huq,huh,by rw[hGe];exact aT9 hlen hb1.size,huf⟩,HII⟩)
 clear hbx hho hbl huq huf HL hb1 HII;go_wp2_with fail;rw[<-hGe];generalize u1.alloc (.cells (rH none 0 0 0 0 m.now m.st m.phase m.addr m.boots m.ql.length m.lost m.cached) 81)=W0 at HA0 ⊢;clear hGe;go_loopg [27] (M+1) (fun gk i wr=>∃t:Nat,t<T/\gk+t=M+1/\i=Vb Vg t/\Hid (∃m h,All w0 wr Q B H G m h/\I t m h))
 case atStart=>exact⟨0,hT0,rfl,rfl,HA0⟩
 obtain⟨t,htT,hgk,rfl,HAt⟩:=hrel;clear HA0;obtain⟨m1,h1,a1,i1⟩:=gB HAt;have hlt:(t:Int)<(M:Int):=by omega
 have c10:wr.cell? (a_ H 10)=some (Vb Vg h1.now):=a1.ho.cell 10;have f10:=a1.ho.free 10;have HA1:Hid (All w0 (wr.setCell (a_ H 10) (Vb Vg ((t:Int)+1))) Q B H G m1 {h1 with now:=(t:Int)+1}):=M0 (a1.host aA (a1.ho.set 10 _ rfl));have HT1:=M0 (HTI t m1 h1 htT i1);clear a1 i1 HAt;go_wp2_with fail;refine on_ (HT1 _ Q B HA1.bx (HRR _ _ _ _ _ _ _ HA1)) ?_;rintro u2 ⟨m2,j2,b2⟩;obtain⟨h2,hh2⟩:∃h2:Host,h2={h1 with now:=(t:Int)+1}:=⟨_,rfl⟩;rw[<-hh2]at j2 HA1;clear hh2;have HA2:=M0 (HA1.af6 b2);have HJ2:=M0 j2;have HTK:=M0 (Z4 HA2.bx);obtain⟨n2,hn2⟩:=ex_ m2.gq.length;have HN2:=M0 hn2;rw[<-hn2]at HTK;clear b2 HA1 HT1 c10 f10 j2 hn2;go_wp2_with fail;refine HTK.mono ?_;rintro ee u3 ⟨ao3,cp3,rfl,ho3,b3⟩;have HS3:Hid (∃m h,J t 0 m h/\m.gf<m.tx/\n2=m.gq.length/\All w0 u3 Q B H G m.taken h/\Wm u3 B m.taken (.slice ao3 n2 cp3) m.gq):=M0 ⟨m2,h2,HJ2,HA2.bx.mx.goes.2.2.1,HN2,HA2.af6 b3,by
  have e:=gB HN2
  subst e
  exact Wm.taken HA2 ho3⟩
 clear ho3 b3 HTK HJ2 HN2 HA2;go_wp2;go_loopg [13] (N t+1) (fun gk v wr=>∃(r:Nat) (ao:Option Addr) (n cp:Nat),r<=N t/\gk+r=N t+1/\v=.slice ao n cp/\Hid (∃m h,J t r m h/\m.gf<m.tx/\n=m.gq.length/\All w0 wr Q B H G m.taken h/\Wm wr B m.taken (.slice ao n cp) m.gq))
 case atStart=>exact⟨0,ao3,n2,cp3,aV3 _,rfl,rfl,HS3⟩
 obtain⟨r,ao,n,cp,hrN,hgk2,rfl,HS⟩:=hrel;clear HS3;rename fV=>wq;obtain⟨m4,h4,j4,gt4,en,a4,r4⟩:=gB HS
 by_cases hr:r<N t
 ·obtain⟨f,l,h5,Zs,eg,ans,hl8,hsz,z0,zs,zl⟩:=HRO t r htT hr m4 h4 j4
  have hn1:n=1:=by rw[en,eg];rfl
  subst hn1;have r4':Wm wq B m4.taken (.slice ao 1 cp) [f]:=by rw[<-eg];exact r4
  obtain⟨g,rfl,cg⟩:=r4'.cell rfl (i:=0) (Nat.lt_succ_self 0);have cg0:wq.cell? (a_ g 0)=some (.string f):=cg;obtain⟨m5,hm5⟩:=ex_ m4.taken;rw[<-hm5]at a4 z0;have HA4:=M0 a4;have HAN:=M0 (ans wq H a4.ho (HCC _ a4.bl) (aT9 a4.ng a4.uh));have HZ0:=M0 z0;have HZS:=M0 zs;have HZL:=M0 zl;have HSZ:=M0 hsz;clear a4 r4 r4' cg j4 en eg ans zs zl z0 HS hm5 hsz gt4;go_wp2;refine aX5 3 ?_;rw[aU9];go_wp2_with fail;refine HAN.mono ?_;rintro ee u4 ⟨ao4,cp4,rfl,ho4,at4,t4⟩;have HA5:=M0 (HA4.host t4 at4);have HR5:Hid (Wm u4 B m5 (.slice ao4 l.length cp4) l):=M0 (Wm.new HA4.bx.mx ho4);have HG5:=M0 (af3 HA5);clear HAN ho4 at4 t4 HA4 cg0;go_wp2_with fail;refine on_ HG5 ?_;rintro u5 ⟨t5,l5⟩;have HS5:Hid (∃mz,Zs 0 mz/\All w0 u5 Q B H G mz h5/\Wm u5 B mz (.slice ao4 l.length cp4) l):=M0 ⟨m5,HZ0,HA5.au8 t5 l5,HR5.au8 HA5 t5⟩;clear HG5 t5 l5 HA5 HR5 HZ0;go_wp2;go_loopg [66] (l.length+1) (fun gk i wr=>∃k:Nat,k<=l.length/\gk+k=l.length+1/\i=Vb Vg k/\Hid (∃mz,Zs k mz/\All w0 wr Q B H G mz h5/\Wm wr B mz (.slice ao4 l.length cp4) l))
  case atStart=>exact⟨0,aV3 _,rfl,rfl,HS5⟩
  obtain⟨k,hkl,hgk3,rfl,HS6⟩:=hrel;clear HS5;rename fV=>wp;obtain⟨m6,z6,a6,r6⟩:=gB HS6
  by_cases hk:k<l.length
  ·have hki:(k:Int)<(l.length:Int):=by omega
   obtain⟨s,hs⟩:=ex_ (l[k]);obtain⟨g4,rfl,c6⟩:=r6.cell rfl hk;rw[<-hs]at c6;have hss:s.size<=2000:=HSZ s (by rw[hs];exact aZ6 hk);have hz6:=HZS k hk m6 z6;rw[<-hs]at hz6;have HP6:=M0 hz6.2;have hdec:decide (m6.cq.length<m6.rx)=true:=by simpa using hz6.1
   have HG6:=M0 (af3 a6);have HA6:=M0 a6;have HR6:=M0 r6;have HDC:=M0 hdec;clear a6 r6 z6 hz6 hs HS6 hdec;go_wp2_with fail;refine on_ HG6 ?_;rintro u6 ⟨t6,l6⟩;have HA7:=M0 (HA6.au8 t6 l6);have HR7:=M0 (HR6.au8 HA6 t6);have HPU:=M0 (yw HA7.bx s (by omega));rw[gB HDC]at HPU;clear HG6 t6 l6 HA6 HR6 c6;go_wp2_with fail;refine on_ HPU fun u7 b7=>?_;have HA8:=M0 (HA7.af6 b7);have HR8:=M0 (HR7.af6 b7);have HPO:=M0 (HP6 u7 Q B HA8.bx (HRR _ _ _ _ _ _ _ HA8));clear HPU b7 HA7 HR7 HP6 HDC;go_wp2_with fail;refine on_ HPO ?_;rintro u8 ⟨mz,hz,b8⟩;have HS9:Hid (∃mz,Zs (k+1) mz/\All w0 u8 Q B H G mz h5/\Wm u8 B mz (.slice (some (a_ g4 0)) l.length cp4) l):=M0 ⟨mz,hz,HA8.af6 b8,HR8.af6 b8⟩;clear HPO hz b8 HA8 HR8;go_wp2;go_roundg (l.length-k)
   case measure=>omega
   exact⟨k+1,by omega,by omega,by go_num,HS9⟩
  have hke:k=l.length:=by omega
  have hki: ¬(k:Int)<(l.length:Int):=by omega
  have HJ9:Hid (J t (r+1) m6 h5/\All w0 wp Q B H G m6 h5):=M0 ⟨HZL m6 (by rw[<-hke];exact z6),a6⟩;have HTK9:=M0 (Z4 a6.bx);obtain⟨n9,hn9⟩:=ex_ m6.gq.length;have HN9:=M0 hn9;rw[<-hn9]at HTK9;clear z6 a6 r6 HS6 hke hn9;go_wp2;rw[aU9];go_wp2_with fail;refine HTK9.mono ?_;rintro ee u9 ⟨ao9,cp9,rfl,ho9,b9⟩;have HS10:Hid (∃m h,J t (r+1) m h/\m.gf<m.tx/\n9=m.gq.length/\All w0 u9 Q B H G m.taken h/\Wm u9 B m.taken (.slice ao9 n9 cp9) m.gq):=M0 ⟨m6,h5,HJ9.1,HJ9.2.bx.mx.goes.2.2.1,HN9,HJ9.2.af6 b9,by
   have e:=gB HN9
   subst e
   exact Wm.taken HJ9.2 ho9⟩
  clear ho9 b9 HTK9 HJ9 HN9;go_wp2;go_roundg (N t-r)
  case measure=>omega
  exact⟨r+1,ao9,n9,cp9,by omega,by omega,rfl,HS10⟩
 have hre:r=N t:=by omega
 subst hre;obtain⟨e0,e1,e2⟩:=HEN t m4 h4 htT j4;have hn0:n=0:=by rw[en,e0];rfl
 subst hn0;have HLK:=M0 (DC a4.bx);have hmt:m4.taken=m4:=by
  unfold Mc.taken;rw[e0];exact QO m4 gt4
 rw[hmt]at a4 HLK;have HA4:=M0 a4;have HJ4:=M0 j4;have hfl:=fun u=>ao5 m4.now m4.st m4.phase m4.addr m4.boots m4.ql.length m4.lost m4.cached u;clear a4 r4 j4 en e0 HS hmt gt4
 by_cases htn:t+1<T
 ·have hp3:(m4.phase==3)=false:=by simpa using(e1 htn).1
  have hp4:(m4.phase==4)=false:=by simpa using(e1 htn).2.1
  have HI4:=M0 (e1 htn).2.2;clear e1 e2;go_wp2_with fail;refine on_ HLK fun u4 hb4=>?_;have HS11:Hid (∃m h,All w0 u4 Q B H G m h/\I (t+1) m h):=M0 ⟨m4,h4,HA4.below hb4,HI4⟩;clear HLK hb4 HI4 HA4 HJ4;go_wp2;go_roundg (M-t)
  case measure=>omega
  exact⟨t+1,htn,by omega,by go_num,HS11⟩
 have hte:t+1=T:=by omega
 have hp3:(m4.phase==3)=true:=by simpa using e2 hte
 clear e1 e2;have hT1:T-1=t:=by omega
 go_wp2_with fail;refine on_ HLK fun u4 hb4=>?_;have HS11:Hid (All w0 u4 Q B H G m4 h4):=M0 (HA4.below hb4);clear HLK hb4 HA4;go_wp2;go_ret;exact⟨rfl,G,m4,h4,HS11,by rw[hT1];exact gB HJ4⟩
end Ho
namespace Ho
open Bs Js
def dg(n:Nat):List UInt8:=if n<10 then [UInt8.ofNat (48+n)]else dg (n/10)++ [UInt8.ofNat (48+n%10)]
termination_by n
decreasing_by omega
theorem aR7(x:Int)(h:0<=x/\x<=9223372036854775807):IntKind.i64.wrap x=x:=by
 rw[bf2];omega
theorem ae5(n:Nat):(dg n).length<=n+1:=by
 induction n using Nat.strongRecOn with
 |_ n ih=>
  rw[dg]
  split
  ·simp
  have:=ih (n/10) (by omega);rw[aS9,List.length_singleton];omega
theorem cell_below{u u':fV}{g j:Nat}{v:Value}(h:u.cell? (a_ g j)=some v)(hb:gm u.heap.size u u'):u'.cell? (a_ g j)=some v:=by
 have hg:g<u.heap.size:=Dh.CP h;rw[<-h];simp only[World.cell?];rw[hb.block g hg]
theorem Zf(x:Nat)(hx:x<256)(u:fV)(g:Nat)(h:u.cell? (a_ g 0)=some (Vb Vd (x:Int))):(convert 73 9 (.slice (some (a_ g 0)) 1 1)).run Vh u=.ok (.string ⟨#[UInt8.ofNat x]⟩) u:=
 aY8 (P:=Vh) u 73 9 5 (a_ g 0) 1 [UInt8.ofNat x] aW0 aY7 aX8 (fun j hj=>by
  have hj0:j=0:=by simp at hj;omega
  subst hj0;rw[show(((a_ g 0):Addr).add 0)=(a_ g 0)from rfl,h];have:((UInt8.ofNat x).toNat:Int)=x:=by simp;omega
  exact bg2 (fun z=>some (Vb Vd z)) this.symm)
theorem af2(n:Nat)(hn:n<=1000000000)(w:fV)(hA: ¬n<10->∀u,f_ Vh 75 #[Vb Vg ((n/10:Nat):Int)] u fun e w'=>e=.returned (.string ⟨(dg (n/10)).toArray⟩)/\gm u.heap.size u w'):
  f_ Vh 75 #[Vb Vg n] w fun e w'=>e=.returned (.string ⟨(dg n).toArray⟩)/\gm w.heap.size w w':=by
 by_cases h10:n<10
 ·have hni:(n:Int)<10:=by omega
  have hcv0:=Zf (48+n) (by omega) (w.alloc (.cells #[Vb Vd (48+(n:Int))] 5)) w.heap.size (by
   rw[aS3 _ _ 0 _ _ _ (aS6 w _)]
   exact bg2 (fun z=>some (Vb Vd z)) (by omega))
  obtain⟨bt,hbt⟩:=ex_ (UInt8.ofNat (48+n));rw[<-hbt]at hcv0;have HDG:Hid (dg n=[bt]):=M0 (by rw[dg,aU0 h10,hbt]);have hc8:(48+(n:Int))%256=48+(n:Int):=by omega
  clear hbt hA;go_enter func75,ntmps75;go_wp2;go_ret;refine⟨?_,(aS8 _ _).alloc (aS5 _) _⟩;rw[gB HDG];rfl
 have hni: ¬(n:Int)<10:=by omega
 obtain⟨q,hqn⟩:∃q:Nat,q=n/10:=⟨_,rfl⟩;have HA0:=hA h10;rw[<-hqn]at HA0;obtain⟨sA,hsA⟩:∃sA:ByteArray,sA=⟨(dg q).toArray⟩:=⟨_,rfl⟩;rw[<-hsA]at HA0;have HA:=M0 HA0;obtain⟨bt,hbt⟩:=ex_ (UInt8.ofNat (48+n%10));have HCV:Hid (∀(u:fV) (g:Nat),u.cell? (a_ g 0)=some (Vb Vd (48+(n:Int)%10))->(convert 73 9 (.slice (some (a_ g 0)) 1 1)).run Vh u=.ok (.string ⟨#[bt]⟩) u):=M0 (fun u g h=>by
  rw[hbt]
  exact Zf (48+n%10) (by omega) u g (by rw[h];exact bg2 (fun z=>some (Vb Vd z)) (by omega)))
 have HEQ:Hid (Ending.returned (.string (sA++(⟨#[bt]⟩:ByteArray)))=Ending.returned (.string ⟨(dg n).toArray⟩)):=M0 (by
  rw[dg,aT4 h10,<-hqn,hsA,hbt]
  congr 2)
 have hsz:sA.size<=9223372036854775806:=by
  rw[hsA];show(dg q).toArray.size<=_;rw[aZ9];have:=ae5 q;omega
 have hw1:IntKind.i64.wrap (q:Int)=(q:Int):=aR7 _ (by omega);have ht:(n:Int).tmod 10=(n:Int)%10:=bd6 (by omega);have hw2:IntKind.i64.wrap (48+(n:Int)%10)=48+(n:Int)%10:=aR7 _ (by omega);have hw3:IntKind.u8.wrap (48+(n:Int)%10)=48+(n:Int)%10:=by
  have:IntKind.u8.wrap (48+(n:Int)%10)=(48+(n:Int)%10)%256:=rfl;rw[this];omega
 have hq:(n:Int)/10=(q:Int):=by omega
 have hc8:(48+(n:Int)%10)%256=48+(n:Int)%10:=by omega
 clear hA h10 HA0 hqn hsA hbt;go_enter func75,ntmps75;go_wp2_with fail;refine wp_region_held_drew (S:=fun _=>True) (by kernel_rfl) trivial (fun hHeld=> ?_);have HB:Hid (gm w.heap.size w w.drew):=M0 ((aS8 _ _).drew);refine tkH_ (i:=0) (v:=(Vb Vg n)) rfl (by kernel_rfl) (fun _ _ _ h=>h) (aT2 ⟨by rfl,?_⟩) hHeld ?_
 ·(intro wz hSz;go_simp)
 try simp only[Act.put,aS4,aS2,aS1,aR8,aR9,aS0]
 refine tkH_ (i:=1) (v:=(Vb Vg (q:Int))) rfl (by kernel_rfl) (fun _ _ _ h=>h) (aT2 ⟨by rfl,?_⟩) hHeld ?_
 ·(intro wz hSz;(have:=hq;go_simp))
 try simp only[Act.put,aS4,aS2,aS1,aR8,aR9,aS0]
 refine tkH_ (i:=3) (v:=(Vb Vg n)) rfl (by kernel_rfl) (fun _ _ _ h=>h) (aT2 ⟨by rfl,?_⟩) hHeld ?_
 ·(intro wz hSz;go_simp)
 try simp only[Act.put,aS4,aS2,aS1,aR8,aR9,aS0]
 refine tkH_ (i:=4) (v:=(Vb Vg ((n:Int)%10))) rfl (by kernel_rfl) (fun _ _ _ h=>h) (aT2 ⟨by rfl,?_⟩) hHeld ?_
 ·(intro wz hSz;go_simp)
 try simp only[Act.put,aS4,aS2,aS1,aR8,aR9,aS0]
 refine tkH_ (i:=5) (v:=(Vb Vg (48+(n:Int)%10))) rfl (by kernel_rfl) (fun _ _ _ h=>h) (aT2 ⟨by rfl,?_⟩) hHeld ?_
 ·(intro wz hSz;go_simp)
 try simp only[Act.put,aS4,aS2,aS1,aR8,aR9,aS0]
 refine tkH_ (i:=6) (v:=(Vb Vd (48+(n:Int)%10))) rfl (by kernel_rfl) (fun _ _ _ h=>h) (aT2 ⟨by rfl,?_⟩) hHeld ?_
 ·(intro wz hSz;(have:=hc8;go_simp))
 try simp only[Act.put,aS4,aS2,aS1,aR8,aR9,aS0]
 refine wpAnyH_ready (rs:=[2,7]) (by kernel_rfl) (by simp) ?_;refine AllReadyH.cons rfl (fun K hK=> ?_) (AllReadyH.cons rfl (fun K hK=> ?_) AllReadyH.nil)
 ·go_simp
  refine on_ (HA _) fun u2 hb2=>?_;have HBx2:Hid (gm w.heap.size w u2):=M0 (HB.trans (hb2.mono HB.size));clear hb2;go_wp2_with fail;clear hHeld;refine hK.out _ _ ?_ (fun hHeld=> ?_)
  ·exact trivial
  clear hK K;try simp only[Act.put,aS4,aS2,aS1,aR8,aR9,aS0]
  refine wpAnyH_ready (rs:=[7]) (by kernel_rfl) (by simp) ?_;refine AllReadyH.cons rfl (fun K hK=> ?_) AllReadyH.nil;go_simp
  have HBx2x7:Hid (gm w.heap.size w ((u2).alloc (.cells #[Vb Vd (48+(n:Int)%10)] 5))):=M0 (HBx2.alloc HBx2.size _);have HG:Hid (World.cell? ((u2).alloc (.cells #[Vb Vd (48+(n:Int)%10)] 5)) (a_ ((u2).heap.size) 0)=some (Vb Vd (48+(n:Int)%10))):=M0 (aS3 _ _ 0 _ _ _ (aS6 _ _));clear hHeld;refine hK.out _ _ ?_ (fun hHeld=> ?_)
  ·exact trivial
  clear hK K;try simp only[Act.put,aS4,aS2,aS1,aR8,aR9,aS0]
  refine Wh (S':=fun u=>u.cell? (a_ ((u2).heap.size) 0)=some (Vb Vd (48+(n:Int)%10))) (fun _ _=>trivial) _ _ _ _ ?_;replace hHeld:=gB HG
  refine tkH_ (i:=8) (v:=(.string ⟨#[bt]⟩)) rfl (by kernel_rfl) (fun _ _ _ h=>h) (aT2 ⟨by rfl,?_⟩) hHeld ?_
  ·(intro wz hSz;(have hcv:=HCV wz _ hSz;go_simp))
  try simp only[Act.put,aS4,aS2,aS1,aR8,aR9,aS0]
  refine tkH_ (i:=9) (v:=(.string (sA++⟨#[bt]⟩))) rfl (by kernel_rfl) (fun _ _ _ h=>h) (aT2 ⟨by rfl,?_⟩) hHeld ?_
  ·(intro wz hSz;go_simp)
  try simp only[Act.put,aS4,aS2,aS1,aR8,aR9,aS0]
  refine tkH_ (i:=10) (v:=(.string (sA++⟨#[bt]⟩))) rfl (by kernel_rfl) (fun _ _ _ h=>h) (aT2 ⟨by rfl,?_⟩) hHeld ?_
  ·(intro wz hSz;go_simp)
  try simp only[Act.put,aS4,aS2,aS1,aR8,aR9,aS0]
  refine aY2 (by kernel_rfl) ?_ _;go_wp2;go_ret;refine⟨?_,HBx2x7⟩;rw[<-gB HEQ];rfl
 go_simp
 have HBx7:Hid (gm w.heap.size w ((w.drew).alloc (.cells #[Vb Vd (48+(n:Int)%10)] 5))):=M0 (HB.alloc HB.size _);have HG:Hid (World.cell? ((w.drew).alloc (.cells #[Vb Vd (48+(n:Int)%10)] 5)) (a_ ((w.drew).heap.size) 0)=some (Vb Vd (48+(n:Int)%10))):=M0 (aS3 _ _ 0 _ _ _ (aS6 _ _));clear hHeld;refine hK.out _ _ ?_ (fun hHeld=> ?_)
 ·exact trivial
 clear hK K;try simp only[Act.put,aS4,aS2,aS1,aR8,aR9,aS0]
 refine Wh (S':=fun u=>u.cell? (a_ ((w).heap.size) 0)=some (Vb Vd (48+(n:Int)%10))) (fun _ _=>trivial) _ _ _ _ ?_;replace hHeld:=gB HG
 refine tkH_ (i:=8) (v:=(.string ⟨#[bt]⟩)) rfl (by kernel_rfl) (fun _ _ _ h=>h) (aT2 ⟨by rfl,?_⟩) hHeld ?_
 ·(intro wz hSz;(have hcv:=HCV wz _ hSz;go_simp))
 try simp only[Act.put,aS4,aS2,aS1,aR8,aR9,aS0]
 refine wpAnyH_ready (rs:=[2]) (by kernel_rfl) (by simp) ?_;refine AllReadyH.cons rfl (fun K hK=> ?_) AllReadyH.nil;go_simp
 refine on_ (HA _) fun u2 hb2=>?_;have HBx7x2:Hid (gm w.heap.size w u2):=M0 (HBx7.trans (hb2.mono HBx7.size));have HG:Hid (u2.cell? (a_ ((w).heap.size) 0)=some (Vb Vd (48+(n:Int)%10))):=M0 (cell_below HG hb2);clear hb2;go_wp2_with fail;clear hHeld;refine hK.out _ _ ?_ (fun hHeld=> ?_)
 ·exact HG
 clear hK K;try simp only[Act.put,aS4,aS2,aS1,aR8,aR9,aS0]
 refine tkH_ (i:=9) (v:=(.string (sA++⟨#[bt]⟩))) rfl (by kernel_rfl) (fun _ _ _ h=>h) (aT2 ⟨by rfl,?_⟩) hHeld ?_
 ·(intro wz hSz;go_simp)
 try simp only[Act.put,aS4,aS2,aS1,aR8,aR9,aS0]
 refine tkH_ (i:=10) (v:=(.string (sA++⟨#[bt]⟩))) rfl (by kernel_rfl) (fun _ _ _ h=>h) (aT2 ⟨by rfl,?_⟩) hHeld ?_
 ·(intro wz hSz;go_simp)
 try simp only[Act.put,aS4,aS2,aS1,aR8,aR9,aS0]
 refine aY2 (by kernel_rfl) ?_ _;go_wp2;go_ret;refine⟨?_,HBx7x2⟩;rw[<-gB HEQ];rfl
theorem ai5(n:Nat)(hn:n<=1000000000)(w:fV):f_ Vh 75 #[Vb Vg n] w fun e w'=>e=.returned (.string ⟨(dg n).toArray⟩)/\gm w.heap.size w w':=by
 induction n using Nat.strongRecOn generalizing w with
 |_ n ih=>exact af2 n hn w (fun h u=>ih (n/10) (by omega) (by omega) u)
end Ho
namespace Ho
open Bs Js
variable{w w' u u':fV} {H:Nat} {h h':Host}
def VC:List UInt8:=[116,115,105,122,101]
def Gp:List UInt8:=[98,108,107,115,105,122,101]
def I1:List UInt8:=[119,105,110,100,111,119,115,105,122,101]
theorem add_block(ad:Addr)(k:Nat):(ad.add k).block=ad.block:=by unfold Addr.add;split<;>rfl
theorem ag6{fs:Tf.pO}{sa:Option Addr}(hA:Tf.X9 w sa fs)(t:PU w u H)(hne:∀ad,sa=some ad->ad.block≠H):Tf.X9 u sa fs:=fun i hi=>by
 obtain⟨ad,e,c0,c1⟩:=hA i hi;have hl:=Tf.CP c0;have hn:(ad.add (i*2)).block≠H:=by rw[add_block];exact hne ad e
 have hb:=t.block _ hl hn;exact⟨ad,e,by rw[aT6 hb];exact c0,by rw[aT6 (w:=w) (a:=(a_ ((ad.add (i*2)).block) ((ad.add (i*2)).off+1))) hb];exact c1⟩
theorem Dm(u:fV)(fr:ByteArray){b:Nat}(hb:b<=u.heap.size):(u.alloc (.cells #[.string fr] 9)).ownsRow b 9 1 (.slice (some (a_ u.heap.size 0)) 1 1) 1 [.string fr]:=
 ⟨rfl,aT7 ⟨u.heap.size,1,#[.string fr],rfl,hb,aS6 u _,aS5 _,by decide,rfl,rfl⟩⟩
theorem aE2(m:Tf.RH):(Tf.U7 m).length<=262144:=by
 unfold Tf.U7
 split
 ·rename_i h
  unfold Tf.UU at h
  split at h
  ·cases h
  split at h
  ·cases h
  split at h
  ·cases h
  omega
 simp
def Host.asked(h:Host):Host:={h with port:=IntKind.u16.wrap (h.port+1),sent:=0,last:= -1}
def Host.Wn(h:Host)(b n:Int):Host:={h.asked with block:=b,window:=n}
theorem au4(k:At w H h)(c:NA w)(hH0:(0:Nat)≠H)(hH1:(1:Nat)≠H)(f:Int)(ld:ByteArray)(hF:0<=f/\f<=65535)(hn:0<=h.next/\h.next<=4294967295)(ho:h.opts=true)(hi:h.image.size<=1000000)
  (fs:Tf.pO) (sa:Option Addr) (sc:Nat) (hfl:fs.length<=1000) (hfz:∀x ∈ fs,x.2.length<=1000) (hA:Tf.X9 w sa fs) (hAH:∀ad,sa=some ad->ad.block≠H) (b n:Nat) (hb:Yj 0 fs Gp=b) (hw:Yj 0 fs I1=n) (hb1:1<=b/\b<=300) (hn1:1<=n/\n<=8):
  f_ Vh 42 #[p_ H,.agg (rI f 69 ld),.agg (rG 1 0 ⟨#[107,101,114,110,101,108]⟩ ⟨#[]⟩ sa fs.length sc)] w fun ee w'=>∃g,ee=.returned (.tuple #[.slice (some (a_ g 0)) 1 1,.bool true])/\w'.ownsRow w.heap.size 9 1 (.slice (some (a_ g 0)) 1 1) 1 [.string ((h.Wn b n).frame h.asked.port f ⟨(Tf.U7 ⟨6,0,[],[],[(VC,dg h.image.size),(Gp,dg b),(I1,dg n)]⟩).toArray⟩ h.next 167772215)]/\At w' H (h.Wn b n).Ww/\PU w w' H:=by
 have hlt:=gG k;obtain⟨sl,hsl⟩:∃sl:Value,sl=.slice sa fs.length sc:=⟨_,rfl⟩;have hHn:H≠w.heap.size:=aU4 hlt;have hHn1:H≠w.heap.size+1:=by omega
 have r4:w.cell? (a_ H 4)=some (Vb Ve h.port):=k.cell 4;have r7:w.cell? (a_ H 7)=some (Vb Vg h.sent):=k.cell 7;have r8:w.cell? (a_ H 8)=some (Vb Vg h.last):=k.cell 8;have f4:=k.free 4;have f7:=k.free 7;have f8:=k.free 8;obtain⟨Y,hY⟩:=ex_ (((w.setCell (a_ H 4) (Vb Ve (IntKind.u16.wrap (h.port+1)))).setCell (a_ H 7) (Vb Vg 0)).setCell (a_ H 8) (Vb Vg (-1)));obtain⟨X,hX⟩:=ex_ ((Y.alloc (.cells (rI f 69 ld) 69)).alloc (.cells (rG 1 0 ⟨#[107,101,114,110,101,108]⟩ ⟨#[]⟩ sa fs.length sc) 96));have HX:Hid (Tx w X H h.asked f 69 ld 1 0 ⟨#[107,101,114,110,101,108]⟩ ⟨#[]⟩ (.slice sa fs.length sc)/\Tf.X9 X sa fs):=M0 (by
  have hz:Y.heap.size=w.heap.size:=by rw[hY];simp[World.setCell]
  have k1:=((k.set (h':={h with port:=IntKind.u16.wrap (h.port+1)}) 4 (Vb Ve (IntKind.u16.wrap (h.port+1))) rfl).set (h':={h with port:=IntKind.u16.wrap (h.port+1),sent:=0}) 7 (Vb Vg 0) rfl).set (h':=h.asked) 8 (Vb Vg (-1)) rfl
  have tn:PU w Y H:=by rw[hY];exact PU.go (PU.go aA aA) aA
  rw[<-hY]at k1
  have c1:NA Y:=c.of (tn.block _ c.lt.1 hH0) (tn.block _ c.lt.2 hH1)
  have q:Tx Y X H h.asked f 69 ld 1 0 ⟨#[107,101,114,110,101,108]⟩ ⟨#[]⟩ (.slice sa fs.length sc):=by rw[hX];exact aA2 k1 c1
  refine⟨⟨q.at',q.cd,PU.go tn q.tn,by rw[<-hz];exact q.b1,by rw[<-hz];exact q.b2⟩,?_⟩
  exact ag6 hA (PU.go tn q.tn) hAH)
 obtain⟨bI,hbI⟩:∃bI:Int,bI=(b:Int):=⟨_,rfl⟩;obtain⟨nI,hnI⟩:∃nI:Int,nI=(n:Int):=⟨_,rfl⟩;have HBI:=M0 hbI;have HNI:=M0 hnI;clear k c hA hbI hnI;go_enter func42,ntmps42;go_wp2_with fail;rw[<-hY,<-hX];clear hX hY r4 r7 r8 f4 f7 f8;go_cut [] (fun wc=>Hid (Tx w wc H (h.Wn b n) f 69 ld 1 0 ⟨#[107,101,114,110,101,108]⟩ ⟨#[]⟩ (.slice sa fs.length sc)/\Tf.X9 wc sa fs));case first=>
  obtain⟨NF,hNF⟩:∃NF:ByteArray->Int,NF=fun nm=>Yj 0 fs nm.data.toList:=⟨_,rfl⟩;have HNB:Hid (∀u (nm:ByteArray),gm X.heap.size X u->f_ Vh 72 #[.slice sa fs.length sc,.string nm] u fun e w'=>e=.returned (Vb Vg (NF nm))/\gm u.heap.size u w'):=M0 (fun u nm hu=>by
   have q:=lH sa sc fs nm.data.toList u (HX.2.below hu (aS5 _)) hfl hfz
   rw[Rd.mQ]at q
   rw[hNF]
   exact q)
  have HNF:Hid (NF ⟨#[98,108,107,115,105,122,101]⟩=b/\NF ⟨#[119,105,110,100,111,119,115,105,122,101]⟩=n):=M0 (by rw[hNF];exact⟨hb,hw⟩);clear hNF;have HS:Hid (∀u,gm X.heap.size X u->c_ u (w.heap.size+1) 4 (.slice sa fs.length sc)/\c_ u H 5 (Vb Vg h.block)/\c_ u H 6 (Vb Vg h.window)/\u.frozen? (a_ H 5)=false/\u.frozen? (a_ H 6)=false):=M0 (fun u hu=>⟨aS3 u _ 4 _ _ _ (HX.1.below hu).b2,(HX.1.below hu).at'.cell 5,(HX.1.below hu).at'.cell 6,(HX.1.below hu).at'.free 5,(HX.1.below hu).at'.free 6⟩);have HV:Hid (gm X.heap.size X X):=M0 (aS8 _ _);clear hb hw hfl hfz;go_region_held3 (fun u=>u.cell? (a_ (w.heap.size+1) 4)=some (.slice sa fs.length sc)) (first|exact(HS _ HV.drew).1|exact(HS _ HBb).1|exact(HS _ HBw).1|(go_keep))
   (first|(go_at_call 72;first|(refine(HNB _ _ HBb).mono ?_;rintro ee uw ⟨rfl,hbw⟩;have HBw:Hid (gm X.heap.size X uw):=M0 (bg6 HBb (hbw.mono HBb.size));obtain⟨d4,d5,d6,d7,d8⟩:=HS _ HBw;clear hbw)|(refine(HNB _ _ HV.drew).mono ?_;rintro ee ub ⟨rfl,hbb⟩;have HBb:Hid (gm X.heap.size X ub):=M0 (bg6 HV.drew (hbb.mono HV.drew.size));obtain⟨b4,b5,b6,b7,b8⟩:=HS _ HBb;clear hbb)))
  all_goals go_wp2
  all_goals go_meet
  all_goals exact M0 (by
   have b0:=HX.1.below HBw
   have b1:=b0.set (h':={h.asked with block:=(b:Int)}) hlt hH0 hH1 5 (Vb Vg (NF ⟨#[98,108,107,115,105,122,101]⟩)) (by rw[HNF.1];rfl)
   have b2:=b1.set (h':=h.Wn b n) hlt hH0 hH1 6 (Vb Vg (NF ⟨#[119,105,110,100,111,119,115,105,122,101]⟩)) (by rw[HNF.2];rfl)
   exact⟨b2,ag6 (HX.2.below HBw (aS5 _)) (PU.go aA aA) hAH⟩)
 rename fV=>wc;have HT:Hid (Tx w wc H (h.Wn b n) f 69 ld 1 0 ⟨#[107,101,114,110,101,108]⟩ ⟨#[]⟩ (.slice sa fs.length sc)):=M0 hcut.1;clear hcut HX;have p1:wc.cell? (a_ w.heap.size 1)=some (Vb Ve 69):=aS3 wc _ 1 _ _ _ HT.b1;have p2:wc.cell? (a_ (w.heap.size+1) 2)=some (.string ⟨#[107,101,114,110,101,108]⟩):=aS3 wc _ 2 _ _ _ HT.b2;have r3:wc.cell? (a_ H 3)=some (.bool true):=by rw[<-ho];exact HT.at'.cell 3
 have r5:wc.cell? (a_ H 5)=some (Vb Vg bI):=by rw[gB HBI];exact HT.at'.cell 5
 have r6:wc.cell? (a_ H 6)=some (Vb Vg nI):=by rw[gB HNI];exact HT.at'.cell 6
 have f5:=HT.at'.free 5;have g5:(bI==0)=false:=by rw[gB HBI];simp;omega
 have g6:(nI==0)=false:=by rw[gB HNI];simp;omega
 have hmn:min bI 300=bI:=by rw[gB HBI];omega
 have HT2:Hid (Tx w (wc.setCell (a_ H 5) (Vb Vg bI)) H (h.Wn b n) f 69 ld 1 0 ⟨#[107,101,114,110,101,108]⟩ ⟨#[]⟩ (.slice sa fs.length sc)):=M0 (HT.set hlt hH0 hH1 5 _ (by rw[gB HBI];rfl));obtain⟨V,hV⟩:=ex_ (wc.setCell (a_ H 5) (Vb Vg bI));rw[<-hV]at HT2;go_wp2_with fail;rw[<-hV];clear hV p1 p2 r3 r5 r6 f5 g5 g6 hmn HT;obtain⟨aB,haB⟩:∃aB:ByteArray,aB=⟨(Tf.U7 ⟨6,0,[],[],[(VC,dg h.image.size),(Gp,dg b),(I1,dg n)]⟩).toArray⟩:=⟨_,rfl⟩;go_cut [8] (fun v8 wd=>v8=.string aB/\Hid (Tx w wd H (h.Wn b n) f 69 ld 1 0 ⟨#[107,101,114,110,101,108]⟩ ⟨#[]⟩ (.slice sa fs.length sc)));case first=>
  obtain⟨DG,hDG⟩:∃DG:Int->ByteArray,DG=fun x=>⟨(dg x.toNat).toArray⟩:=⟨_,rfl⟩;have HDG:Hid (∀(u:fV) (x:Int),0<=x/\x<=1000000->f_ Vh 75 #[Vb Vg x] u fun e w'=>e=.returned (.string (DG x))/\gm u.heap.size u w'):=M0 (fun u x hx=>by
   have q:=ai5 x.toNat (by omega) u
   rw[show((x.toNat:Nat):Int)=x by omega]at q
   rw[hDG];exact q)
  obtain⟨ek,hek⟩:∃ek:Int,ek=Tf.UU ⟨6,0,[],[],[(VC,dg h.image.size),(Gp,dg b),(I1,dg n)]⟩:=⟨_,rfl⟩;have HWT:Hid (∀(u:fV) (g:Nat),u.heap[g]?=some (.cells #[.string ⟨#[116,115,105,122,101]⟩,.string (DG h.image.size),.string ⟨#[98,108,107,115,105,122,101]⟩,.string (DG bI),.string ⟨#[119,105,110,100,111,119,115,105,122,101]⟩,.string (DG nI)] 146 (0,0))->f_ Vh 74 #[.agg (rG 6 0 ⟨#[]⟩ ⟨#[]⟩ (some (a_ g 0)) 3 3)] u fun e w'=>e=.returned (.tuple #[.string aB,Vb Vg ek])/\gm u.heap.size u w'):=M0 (fun u g hg=>by
   rw[haB,hek]
   have l1:=ae5 h.image.size
   have l2:=ae5 b
   have l3:=ae5 n
   refine Tf.Wj 6 0 ⟨#[]⟩ ⟨#[]⟩ (some (a_ g 0)) 3 ⟨6,0,[],[],[(VC,dg h.image.size),(Gp,dg b),(I1,dg n)]⟩ u rfl rfl (by decide) (by decide) rfl rfl ?_ ?_ (by simp) (by simp)
   ·refine ab0 u g 146 VC _ Gp _ I1 _ ?_
    rw[hg,hDG,gB HBI,gB HNI]
    rfl
   simp[Tf.lF,VC,Gp,I1];omega)
  have HCE:Hid (∀u,gm V.heap.size V u->c_ u H 0 (.string h.image)/\c_ u H 5 (Vb Vg bI)/\c_ u H 6 (Vb Vg nI)):=M0 (fun u hu=>⟨(HT2.below hu).at'.cell 0,by rw[gB HBI];exact(HT2.below hu).at'.cell 5,by rw[gB HNI];exact(HT2.below hu).at'.cell 6⟩);have HV:Hid (gm V.heap.size V V):=M0 (aS8 _ _);have hbB:0<=bI/\bI<=1000000:=by rw[gB HBI];omega
  have hnB:0<=nI/\nI<=1000000:=by rw[gB HNI];omega
  have hiB:0<=(h.image.size:Int)/\(h.image.size:Int)<=1000000:=by omega
  clear hDG hek haB hb hw;go_region_held3 (fun u=>c_ u H 0 (.string h.image)/\c_ u H 5 (Vb Vg bI)/\c_ u H 6 (Vb Vg nI)) (first|exact HCE _ HV.drew|exact HCE _ HD5|exact HCE _ (HD3.alloc HD3.size _)|exact HCE _ HD3|exact HCE _ HD2|exact HCE _ HD1)
   (first|(go_at_call 75;refine(HDG _ _ (by first|exact hiB|exact hbB|exact hnB)).mono ?_;rintro ee ud ⟨rfl,hbd⟩;first|(have HD3:Hid (gm V.heap.size V ud):=M0 (HD2.trans (hbd.mono HD2.size));clear hbd)|(have HD2:Hid (gm V.heap.size V ud):=M0 (HD1.trans (hbd.mono HD1.size));clear hbd)|(have HD1:Hid (gm V.heap.size V ud):=M0 (HV.drew.trans (hbd.mono HV.drew.size));clear hbd))|(go_at_call 74;refine(HWT _ _ (aS6 _ _)).mono ?_;rintro ee ue ⟨rfl,hbe⟩;have HD5:Hid (gm V.heap.size V ue):=M0 ((HD3.alloc HD3.size _).trans (hbe.mono (HD3.alloc HD3.size _).size));clear hbe))
  all_goals go_wp2
  all_goals go_meet
  all_goals exact⟨rfl,M0 (HT2.below HD5)⟩
 rename fV=>wd;obtain⟨rfl,HT3⟩:=hcut;clear HT2;obtain⟨fr,hfr⟩:=ex_ ((h.Wn b n).frame h.asked.port f aB h.next 167772215);have hpb:0<=h.asked.port/\h.asked.port<=65535:=QQ (h.port+1);obtain⟨pt,hpt⟩:=ex_ h.asked.port;have HWR:Hid (∀u,Tx w u H (h.Wn b n) f 69 ld 1 0 ⟨#[107,101,114,110,101,108]⟩ ⟨#[]⟩ (.slice sa fs.length sc)->f_ Vh 70 #[p_ H,.agg (rI pt f aB),Vb Vf h.next,Vb Vf 167772215] u fun ee w'=>ee=.returned (.string fr)/\Tx w w' H (h.Wn b n).Ww f 69 ld 1 0 ⟨#[107,101,114,110,101,108]⟩ ⟨#[]⟩ (.slice sa fs.length sc)):=M0 (fun u hu=>by
  rw[hpt]
  refine(Zj hu.at' hu.cd hH0 hH1 h.asked.port f h.next 167772215 aB hpb hF hn (by decide) ?_).mono ?_
  ·rw[haB,strSize]
   exact aE2 _
  rintro ee w' ⟨rfl,k6,t6⟩
  exact⟨by rw[hfr],hu.host hlt hH0 hH1 k6 t6⟩)
 have HCE:Hid (∀u h',h'.port=h.asked.port->h'.next=h.next->Tx w u H h' f 69 ld 1 0 ⟨#[107,101,114,110,101,108]⟩ ⟨#[]⟩ (.slice sa fs.length sc)->c_ u H 4 (Vb Ve pt)/\c_ u H 2 (Vb Vf h.next)/\c_ u w.heap.size 0 (Vb Ve f)):=M0 (fun u h' e1 e2 hu=>⟨by rw[hpt,<-e1];exact hu.at'.cell 4,by rw[<-e2];exact hu.at'.cell 2,aS3 u _ 0 _ _ _ hu.b1⟩);have HFR:=M0 hfr;have HAB:=M0 haB;clear hfr haB hpt hpb;go_wp2_with fail;go_region_held3 (fun u=>c_ u H 4 (Vb Ve pt)/\c_ u H 2 (Vb Vf h.next)/\c_ u w.heap.size 0 (Vb Ve f)) (first|exact HCE _ (h.Wn b n) rfl rfl (HT3.below ((aS8 _ _).drew))|exact HCE _ (h.Wn b n).Ww rfl rfl (H6.below b1_)|exact HCE _ (h.Wn b n).Ww rfl rfl H6)
  (first|(go_at_call 70;refine(HWR _ (HT3.below ((aS8 _ _).drew))).mono ?_;rintro ee u6 ⟨rfl,h6⟩;have H6:=M0 h6;clear h6))
 go_wp2;go_ret2;have q:=H6.below (u':=u6.alloc (.cells #[.string fr] 9)) b1_;refine⟨u6.heap.size,rfl,?_,q.at',q.tn⟩;rw[<-gB HAB,<-gB HFR];exact Dm u6 fr H6.tn.size
theorem Ye(id fr ta fp tp:Int)(ld:ByteArray):(Ip.Db id 64 17 fr ta (Ud.sH fp tp fr ta ld)).size<=1500/\(Ud.sH fp tp fr ta ld).size<=1480:=by
 have hu8:(Ud.sH fp tp fr ta ld).size<=1480:=WI _ _ _ _ _;refine⟨?_,hu8⟩;rw[Zg _ _ _ _ _ _ (by decide) hu8,strSize,Ip.Ls,aS9,Ip.jY,jc];omega
theorem Rm{u u':fV}{g:Nat}{o:Obj}(k:u.heap[g]?=some o)(hb:gm u.heap.size u u'):u'.heap[g]?=some o:=(hb.block g (gG k)).trans k
theorem ac0{fs:Tf.pO}{sa:Option Addr}{sc b:Nat}(o:u.ownsRow b 146 2 (.slice sa fs.length sc) fs.length (Tf.Rf fs)):Tf.X9 u sa fs:=by
 rcases o.2 with⟨h1,h2⟩|⟨g,cap,cur,e1,e2⟩
 ·intro i hi;omega
 injection e1 with e1 _ _
 subst e1;exact Tf.X9.Jr (o.cells (g:=g) rfl)
theorem aC0(k:At w H h)(c:NA w)(t0 t1 t2 t3 t4 t5:UInt8)(id fr ta fp:Int)(ld:ByteArray)(hid:0<=id/\id<=65535)(hfr:0<=fr/\fr<=4294967295)(hta:0<=ta/\ta<=4294967295)(hfp:0<=fp/\fp<=65535)(hld:ld.size<=1472)(Z:Ending->fV->Prop)
  (HD:∀u,At u H h->NA u->gm w.heap.size w u->f_ Vh 40 #[p_ H,.agg #[Vb Ve fp,Vb Ve 67,.string ld]] u fun ee w'=>∃v1 v2,ee=.returned (.tuple #[v1,v2])/\Z ee w'):
  f_ Vh 23 #[p_ H,.string (og.ni [t0,t1,t2,t3,t4,t5,2,0,0,0,0,42] 2048 (Ip.Db id 64 17 fr ta (Ud.sH fp 67 fr ta ld)))] w Z:=by
 obtain⟨z1,z2⟩:=Ye id fr ta fp 67 ld;have HE:=M0 (Y4 t0 t1 t2 t3 t4 t5 2 0 0 0 0 42 2048 _ (by decide) (by decide) z1);have HI:=M0 (aN8 id 64 17 fr ta _ hid (by decide) (by decide) hfr hta z2);have HU:=M0 (aG1 fp 67 fr ta ld hfp (by decide) hfr hta hld);have hsz:=(Xj t0 t1 t2 t3 t4 t5 2 0 0 0 0 42 2048 _ (by decide) z1).1;have hmq:∀u,(Op.equalIn 10000 30 (.agg #[Vb Vd 2,Vb Vd 0,Vb Vd 0,Vb Vd 0,Vb Vd 0,Vb Vd 42]) (.agg #[Vb Vd 2,Vb Vd 0,Vb Vd 0,Vb Vd 0,Vb Vd 0,Vb Vd 42])).run Vh u=.ok true u:=fun u=>Sq.Yx 9998 2 0 0 0 0 42 u;generalize og.ni [t0,t1,t2,t3,t4,t5,2,0,0,0,0,42] 2048 (Ip.Db id 64 17 fr ta (Ud.sH fp 67 fr ta ld))=sE at HE hsz ⊢;generalize WR (Ip.Db id 64 17 fr ta (Ud.sH fp 67 fr ta ld))=sI at HE HI;generalize Ud.sH fp 67 fr ta ld=sU at HI HU;have hs60: ¬(sE.size:Int)<60:=by omega
 have HK:=M0 k;have HC:=M0 c;have HDD:=M0 HD;clear k c HD z1 z2 hsz;go_enter func23,ntmps23;go_wp2_with fail;refine on_ (HE _) fun u1 hb1=>?_;have HC1:=M0 (HC.below hb1);obtain⟨g0,g1,g2,g3,g4,g5,_⟩:=gB HC1;have hc0:=HC1.lt.1;have hc1:(0:Nat)≠u1.heap.size:=aU4 hc0;have HB1:=M0 hb1;clear hb1 HE;go_wp2_with fail;obtain⟨eR,heR⟩:∃eR:Array Value,eR=#[Vb Vd t0.toNat,Vb Vd t1.toNat,Vb Vd t2.toNat,Vb Vd t3.toNat,Vb Vd t4.toNat,Vb Vd t5.toNat,Vb Vd 2,Vb Vd 0,Vb Vd 0,Vb Vd 0,Vb Vd 0,Vb Vd 42,Vb Ve 2048,.string sI]:=⟨_,rfl⟩;rw[<-heR];have HER:Hid (eR[12]?=some (Vb Ve 2048)):=M0 (by rw[heR];rfl);have HX1:Hid (gm w.heap.size w (u1.alloc (.cells eR 55))/\(u1.alloc (.cells eR 55)).heap[u1.heap.size]?=some (.cells eR 55 (0,0))):=M0 ⟨HB1.alloc HB1.size _,aS6 u1 _⟩;clear g0 g1 g2 g3 g4 g5 hc0 hc1 hmq heR HC1;refine on_ (HI _) fun u2 hb2=>?_;have HX2:Hid (gm w.heap.size w u2/\u2.heap[u1.heap.size]?=some (.cells eR 55 (0,0))):=M0 ⟨HX1.1.trans (hb2.mono HX1.1.size),Rm HX1.2 hb2⟩;clear hb2 HX1 HI HB1;obtain⟨d1,hd1⟩:=ex_ u1.heap.size;rw[<-hd1]at HX2 ⊢;clear hd1;go_wp2_with fail;have HX3:Hid (gm w.heap.size w (u2.alloc (.cells #[Vb Ve id,Vb Vd 64,Vb Vd 17,Vb Vf fr,Vb Vf ta,.string sU] 59))/\(u2.alloc (.cells #[Vb Ve id,Vb Vd 64,Vb Vd 17,Vb Vf fr,Vb Vf ta,.string sU] 59)).heap[d1]?=some (.cells eR 55 (0,0))/\(u2.alloc (.cells #[Vb Ve id,Vb Vd 64,Vb Vd 17,Vb Vf fr,Vb Vf ta,.string sU] 59)).heap[u2.heap.size]?=some (.cells #[Vb Ve id,Vb Vd 64,Vb Vd 17,Vb Vf fr,Vb Vf ta,.string sU] 59 (0,0))):=M0 ⟨HX2.1.alloc HX2.1.size _,Rm HX2.2 b1_,aS6 u2 _⟩;refine on_ (HU _) fun u3 hb3=>?_;obtain⟨d2,hd2⟩:=ex_ u2.heap.size;have HX4:Hid (gm w.heap.size w u3/\u3.heap[d1]?=some (.cells eR 55 (0,0))/\u3.heap[d2]?=some (.cells #[Vb Ve id,Vb Vd 64,Vb Vd 17,Vb Vf fr,Vb Vf ta,.string sU] 59 (0,0))):=M0 ⟨HX3.1.trans (hb3.mono HX3.1.size),Rm HX3.2.1 hb3,by rw[hd2];exact Rm HX3.2.2 hb3⟩;rw[<-hd2];clear hb3 HX3 HU HX2 hd2;have e12:u3.cell? (a_ d1 12)=some (Vb Ve 2048):=by rw[aS3 u3 _ 12 _ _ _ HX4.2.1];exact HER
 have i2:u3.cell? (a_ d2 2)=some (Vb Vd 17):=aS3 u3 _ 2 _ _ _ HX4.2.2;have n1:=gG HX4.2.1;have n2:=gG HX4.2.2;have n3:d1≠u3.heap.size:=aU4 n1;have n4:d2≠u3.heap.size:=aU4 n2;have HX5:Hid (gm w.heap.size w (u3.alloc (.cells #[Vb Ve fp,Vb Ve 67,.string ld] 69))):=M0 (HX4.1.alloc HX4.1.size _);go_wp2_with fail;refine(HDD _ (HK.below HX5) (HC.below HX5) HX5).mono ?_;rintro ee u4 ⟨v1,v2,rfl,hz⟩;have HZ:=M0 hz;clear hz HDD HX5 HX4;go_wp2;exact HZ
theorem Yz(op fi ti:Int)(a b c d e f a' b' c' d' e' f':UInt8):(WM.vE op [a,b,c,d,e,f] fi [a',b',c',d',e',f'] ti).size<=1500:=by
 unfold WM.vE
 split
 ·rw[strSize]
  simp[WM.GJ,iy,g_,iY]
 show(0:Nat)<=1500;omega
theorem au6(k:At w H h)(c:NA w):
  f_ Vh 23 #[p_ H,.string (og.ni [255,255,255,255,255,255,2,0,0,0,0,42] 2054 (WM.vE 1 [2,0,0,0,0,42] 0 [0,0,0,0,0,0] 167772215))] w fun ee w'=>ee=.returned (.tuple #[.slice none 0 0,.bool true])/\At w' H h/\PU w w' H:=by
 have z1:(WM.vE 1 [2,0,0,0,0,42] 0 [0,0,0,0,0,0] 167772215).size<=1500:=Yz _ _ _ _ _ _ _ _ _ _ _ _ _ _ _;have HE:=M0 (Y4 255 255 255 255 255 255 2 0 0 0 0 42 2054 _ (by decide) (by decide) z1);have HI:=M0 (aG3 1 0 167772215 2 0 0 0 0 42 0 0 0 0 0 0 (aT2 rfl) (by decide) (by decide));have hsz:=(Xj 255 255 255 255 255 255 2 0 0 0 0 42 2054 _ (by decide) z1).1;have hmq:∀u,(Op.equalIn 10000 30 (.agg (rT 2 0 0 0 0 42)) (.agg (rT 2 0 0 0 0 42))).run Vh u=.ok true u:=fun u=>Sq.Yx 9998 2 0 0 0 0 42 u;generalize og.ni [255,255,255,255,255,255,2,0,0,0,0,42] 2054 (WM.vE 1 [2,0,0,0,0,42] 0 [0,0,0,0,0,0] 167772215)=sE at HE hsz ⊢;generalize WR (WM.vE 1 [2,0,0,0,0,42] 0 [0,0,0,0,0,0] 167772215)=sI at HE HI;have hs60: ¬(sE.size:Int)<60:=by omega
 have HK:=M0 k;have HC:=M0 c;clear k c z1 hsz;go_enter func23,ntmps23;go_wp2_with fail;refine on_ (HE _) fun u1 hb1=>?_;have HC1:=M0 (HC.below hb1);obtain⟨g0,g1,g2,g3,g4,g5,_⟩:=gB HC1;have hc0:=HC1.lt.1;have hc1:(0:Nat)≠u1.heap.size:=aU4 hc0;have HB1:=M0 hb1;clear hb1 HE;go_wp2_with fail;clear g0 g1 g2 g3 g4 g5 hc0 hc1;refine on_ (HI _) fun u2 hb2=>?_;have HB2:Hid (gm w.heap.size w u2):=M0 ((HB1.alloc HB1.size _).trans (hb2.mono (HB1.alloc HB1.size _).size));have HC2:=M0 (HC.below HB2);obtain⟨g0,g1,g2,g3,g4,g5,k0,k1,k2,k3,k4,k5⟩:=gB HC2;have hc0:=HC2.lt.1;have hc1:(0:Nat)≠u2.heap.size:=aU4 hc0;have hc2:=HC2.lt.2;have hc3:(1:Nat)≠u2.heap.size:=aU4 hc2;clear hb2 HB1 HI HC1;obtain⟨X,hX⟩:=ex_ (u2.alloc (.cells (rE 1 2 0 0 0 0 42 0 0 0 0 0 0 0 167772215) 87));obtain⟨d2,hd2⟩:=ex_ u2.heap.size;have HX:Hid (gm w.heap.size w X/\X.heap[d2]?=some (.cells (rE 1 2 0 0 0 0 42 0 0 0 0 0 0 0 167772215) 87 (0,0))):=M0 (by rw[hX,hd2];exact⟨HB2.alloc HB2.size _,aS6 u2 _⟩);go_wp2_with fail;rw[<-hX,<-hd2];have y7:X.cell? (a_ d2 7)=some (Vb Vf 0):=aS3 X _ 7 _ _ _ HX.2;clear hX hd2 g0 g1 g2 g3 g4 g5 k0 k1 k2 k3 k4 k5 hc0 hc1 hc2 hc3;go_quiet (fail);go_wp2;go_ret2;have hbw:=below_drewN HX.1 nq;exact⟨rfl,HK.below hbw,⟨hbw.os,hbw.tape,hbw.output,hbw.size,fun j hj _=>hbw.block j hj⟩⟩
theorem aD4(k:At w H h)(c:NA w):
  f_ Vh 23 #[p_ H,.string (og.ni [255,255,255,255,255,255,2,0,0,0,0,42] 2054 (WM.vE 1 [2,0,0,0,0,42] 167772215 [0,0,0,0,0,0] 167772161))] w fun ee w'=>∃g,ee=.returned (.tuple #[.slice (some (a_ g 0)) 1 1,.bool true])/\w'.ownsRow w.heap.size 9 1 (.slice (some (a_ g 0)) 1 1) 1 [.string (og.ni [2,0,0,0,0,42,2,0,0,0,0,7] 2054 (WM.vE 2 [2,0,0,0,0,7] 167772161 [2,0,0,0,0,42] 167772215))]/\At w' H h/\PU w w' H:=by
 have z1:(WM.vE 1 [2,0,0,0,0,42] 167772215 [0,0,0,0,0,0] 167772161).size<=1500:=Yz _ _ _ _ _ _ _ _ _ _ _ _ _ _ _;have HE:=M0 (Y4 255 255 255 255 255 255 2 0 0 0 0 42 2054 _ (by decide) (by decide) z1);have HI:=M0 (aG3 1 167772215 167772161 2 0 0 0 0 42 0 0 0 0 0 0 (aT2 rfl) (by decide) (by decide));have hsz:=(Xj 255 255 255 255 255 255 2 0 0 0 0 42 2054 _ (by decide) z1).1;have hmq:∀u,(Op.equalIn 10000 30 (.agg (rT 2 0 0 0 0 42)) (.agg (rT 2 0 0 0 0 42))).run Vh u=.ok true u:=fun u=>Sq.Yx 9998 2 0 0 0 0 42 u;generalize og.ni [255,255,255,255,255,255,2,0,0,0,0,42] 2054 (WM.vE 1 [2,0,0,0,0,42] 167772215 [0,0,0,0,0,0] 167772161)=sE at HE hsz ⊢;generalize WR (WM.vE 1 [2,0,0,0,0,42] 167772215 [0,0,0,0,0,0] 167772161)=sI at HE HI;have hs60: ¬(sE.size:Int)<60:=by omega
 have HK:=M0 k;have HC:=M0 c;clear k c z1 hsz;obtain⟨fr,hfr⟩:=ex_ (og.ni [2,0,0,0,0,42,2,0,0,0,0,7] 2054 (WM.vE 2 [2,0,0,0,0,7] 167772161 [2,0,0,0,0,42] 167772215));obtain⟨ar,har⟩:=ex_ (WM.vE 2 [2,0,0,0,0,7] 167772161 [2,0,0,0,0,42] 167772215);have HWA:Hid (∀u,f_ Vh 38 #[.agg (rE 2 2 0 0 0 0 7 167772161 2 0 0 0 0 42 167772215)] u fun e w'=>(∃k,e=.returned (.tuple #[.string ar,Vb Vg k]))/\gm u.heap.size u w'):=M0 (fun u=>by
  rw[har]
  exact(WM.Wj 2 2 0 0 0 0 7 167772161 2 0 0 0 0 42 167772215 u (by decide) (by decide) (by decide) (by decide) (by decide) (by decide)).mono (fun e w' h=>⟨⟨_,h.1⟩,h.2⟩))
 have HWE:Hid (∀u,f_ Vh 39 #[.agg (rM 2 0 0 0 0 42 2 0 0 0 0 7 2054 ar)] u fun e w'=>(∃k,e=.returned (.tuple #[.string fr,Vb Vg k]))/\gm u.heap.size u w'):=M0 (fun u=>by
  rw[hfr,<-har]
  refine on_ (og.Wj 2 0 0 0 0 42 2 0 0 0 0 7 2054 ar u (by decide) (by decide) (by rw[har];exact aT9 (Yz _ _ _ _ _ _ _ _ _ _ _ _ _ _ _) (by decide))) fun w' hb=>?_
  exact⟨⟨_,rfl⟩,hb⟩)
 have HFR:=M0 hfr;clear hfr har;go_enter func23,ntmps23;go_wp2_with fail;refine on_ (HE _) fun u1 hb1=>?_;have HC1:=M0 (HC.below hb1);obtain⟨g0,g1,g2,g3,g4,g5,_⟩:=gB HC1;have hc0:=HC1.lt.1;have hc1:(0:Nat)≠u1.heap.size:=aU4 hc0;have HB1:=M0 hb1;clear hb1 HE;go_wp2_with fail;clear g0 g1 g2 g3 g4 g5 hc0 hc1;refine on_ (HI _) fun u2 hb2=>?_;have HB2:Hid (gm w.heap.size w u2):=M0 ((HB1.alloc HB1.size _).trans (hb2.mono (HB1.alloc HB1.size _).size));have HC2:=M0 (HC.below HB2);obtain⟨g0,g1,g2,g3,g4,g5,k0,k1,k2,k3,k4,k5⟩:=gB HC2;have hc0:=HC2.lt.1;have hc1:(0:Nat)≠u2.heap.size:=aU4 hc0;have hc2:=HC2.lt.2;have hc3:(1:Nat)≠u2.heap.size:=aU4 hc2;clear hb2 HB1 HI HC1;obtain⟨X,hX⟩:=ex_ (u2.alloc (.cells (rE 1 2 0 0 0 0 42 167772215 0 0 0 0 0 0 167772161) 87));obtain⟨d2,hd2⟩:=ex_ u2.heap.size;have HX:Hid (gm w.heap.size w X/\X.heap[d2]?=some (.cells (rE 1 2 0 0 0 0 42 167772215 0 0 0 0 0 0 167772161) 87 (0,0))):=M0 (by rw[hX,hd2];exact⟨HB2.alloc HB2.size _,aS6 u2 _⟩);go_wp2_with fail;rw[<-hX];refine(HWA _).mono ?_;rintro ee u3 ⟨⟨ek,rfl⟩,hb3⟩;rw[<-hd2];have HX3:Hid (gm w.heap.size w u3/\u3.heap[d2]?=some (.cells (rE 1 2 0 0 0 0 42 167772215 0 0 0 0 0 0 167772161) 87 (0,0))):=M0 ⟨HX.1.trans (hb3.mono HX.1.size),Rm HX.2 hb3⟩;clear hX hd2 g0 g1 g2 g3 g4 g5 k0 k1 k2 k3 k4 k5 hc0 hc1 hc2 hc3 hb3;have HC3:=M0 (HC.below HX3.1);obtain⟨g0,g1,g2,g3,g4,g5,k0,k1,k2,k3,k4,k5⟩:=gB HC3;go_wp2_with fail;refine(HWE _).mono ?_;rintro ee V ⟨⟨ek2,rfl⟩,hb4⟩;have HX5:Hid (gm w.heap.size w V/\V.heap[d2]?=some (.cells (rE 1 2 0 0 0 0 42 167772215 0 0 0 0 0 0 167772161) 87 (0,0))):=M0 ⟨HX3.1.trans (hb4.mono HX3.1.size),Rm HX3.2 hb4⟩;clear hb4 g0 g1 g2 g3 g4 g5 k0 k1 k2 k3 k4 k5 hmq;have HCE:Hid (∀u,gm V.heap.size V u->u.cell? (a_ d2 7)=some (Vb Vf 167772215)/\u.cell? (a_ d2 14)=some (Vb Vf 167772161)):=M0 (fun u hu=>⟨aS3 u _ 7 _ _ _ (Rm HX5.2 hu),aS3 u _ 14 _ _ _ (Rm HX5.2 hu)⟩);go_wp2_with fail;refine wp_region_held_drew (S:=fun u=>u.cell? (a_ d2 7)=some (Vb Vf 167772215)/\u.cell? (a_ d2 14)=some (Vb Vf 167772161)) (by kernel_rfl) (HCE _ ((aS8 _ _).drew)) (fun hHeld=> ?_);refine tkH_ (i:=0) (v:=(.string fr)) rfl (by kernel_rfl) (fun _ _ _ h=>h) (aT2 ⟨by rfl,?_⟩) hHeld ?_
 ·(intro wz hSz;go_simp)
 try simp only[Act.put,aS4,aS2,aS1,aR8,aR9,aS0]
 refine tkH_ (i:=2) (v:=(.pointer (some (a_ d2 7)))) rfl (by kernel_rfl) (fun _ _ _ h=>h) (aT2 ⟨by rfl,?_⟩) hHeld ?_
 ·(intro wz hSz;go_simp)
 try simp only[Act.put,aS4,aS2,aS1,aR8,aR9,aS0]
 refine tkH_ (i:=3) (v:=(Vb Vf 167772215)) rfl (by kernel_rfl) (fun _ _ _ h=>h) (aT2 ⟨by rfl,?_⟩) hHeld ?_
 ·(intro wz hSz;go_simp)
 try simp only[Act.put,aS4,aS2,aS1,aR8,aR9,aS0]
 refine tkH_ (i:=4) (v:=(.bool true)) rfl (by kernel_rfl) (fun _ _ _ h=>h) (aT2 ⟨by rfl,?_⟩) hHeld ?_
 ·(intro wz hSz;go_simp)
 try simp only[Act.put,aS4,aS2,aS1,aR8,aR9,aS0]
 refine tkH_ (i:=5) (v:=(.bool true)) rfl (by kernel_rfl) (fun _ _ _ h=>h) (aT2 ⟨by rfl,?_⟩) hHeld ?_
 ·(intro wz hSz;go_simp)
 try simp only[Act.put,aS4,aS2,aS1,aR8,aR9,aS0]
 refine tkH_ (i:=6) (v:=(.pointer (some (a_ d2 14)))) rfl (by kernel_rfl) (fun _ _ _ h=>h) (aT2 ⟨by rfl,?_⟩) hHeld ?_
 ·(intro wz hSz;go_simp)
 try simp only[Act.put,aS4,aS2,aS1,aR8,aR9,aS0]
 refine tkH_ (i:=7) (v:=(Vb Vf 167772161)) rfl (by kernel_rfl) (fun _ _ _ h=>h) (aT2 ⟨by rfl,?_⟩) hHeld ?_
 ·(intro wz hSz;go_simp)
 try simp only[Act.put,aS4,aS2,aS1,aR8,aR9,aS0]
 refine tkH_ (i:=8) (v:=(.bool true)) rfl (by kernel_rfl) (fun _ _ _ h=>h) (aT2 ⟨by rfl,?_⟩) hHeld ?_
 ·(intro wz hSz;go_simp)
 try simp only[Act.put,aS4,aS2,aS1,aR8,aR9,aS0]
 refine tkH_ (i:=9) (v:=(.bool true)) rfl (by kernel_rfl) (fun _ _ _ h=>h) (aT2 ⟨by rfl,?_⟩) hHeld ?_
 ·(intro wz hSz;go_simp)
 try simp only[Act.put,aS4,aS2,aS1,aR8,aR9,aS0]
 refine tkH_ (i:=10) (v:=undef) rfl (by kernel_rfl) (fun _ _ _ h=>h) (aT7 ⟨by rfl,rfl⟩) hHeld ?_;try simp only[Act.put,aS4,aS2,aS1,aR8,aR9,aS0]
 refine tkH_ (i:=11) (v:=undef) rfl (by kernel_rfl) (fun _ _ _ h=>h) (aT7 ⟨by rfl,rfl⟩) hHeld ?_;try simp only[Act.put,aS4,aS2,aS1,aR8,aR9,aS0]
 refine tkH_ (i:=12) (v:=undef) rfl (by kernel_rfl) (fun _ _ _ h=>h) (aT7 ⟨by rfl,rfl⟩) hHeld ?_;try simp only[Act.put,aS4,aS2,aS1,aR8,aR9,aS0]
 refine tkH_ (i:=13) (v:=undef) rfl (by kernel_rfl) (fun _ _ _ h=>h) (aT7 ⟨by rfl,rfl⟩) hHeld ?_;try simp only[Act.put,aS4,aS2,aS1,aR8,aR9,aS0]
 refine tkH_ (i:=14) (v:=undef) rfl (by kernel_rfl) (fun _ _ _ h=>h) (aT7 ⟨by rfl,rfl⟩) hHeld ?_;try simp only[Act.put,aS4,aS2,aS1,aR8,aR9,aS0]
 refine tkH_ (i:=15) (v:=undef) rfl (by kernel_rfl) (fun _ _ _ h=>h) (aT7 ⟨by rfl,rfl⟩) hHeld ?_;try simp only[Act.put,aS4,aS2,aS1,aR8,aR9,aS0]
 refine tkH_ (i:=16) (v:=undef) rfl (by kernel_rfl) (fun _ _ _ h=>h) (aT7 ⟨by rfl,rfl⟩) hHeld ?_;try simp only[Act.put,aS4,aS2,aS1,aR8,aR9,aS0]
 refine tkH_ (i:=17) (v:=(.bool true)) rfl (by kernel_rfl) (fun _ _ _ h=>h) (aT2 ⟨by rfl,?_⟩) hHeld ?_
 ·(intro wz hSz;go_simp)
 try simp only[Act.put,aS4,aS2,aS1,aR8,aR9,aS0]
 refine tkH_ (i:=18) (v:=(.bool true)) rfl (by kernel_rfl) (fun _ _ _ h=>h) (aT2 ⟨by rfl,?_⟩) hHeld ?_
 ·(intro wz hSz;go_simp)
 try simp only[Act.put,aS4,aS2,aS1,aR8,aR9,aS0]
 refine wpAnyH_ready (rs:=[1]) (by kernel_rfl) (by simp) ?_;refine AllReadyH.cons rfl (fun K hK=> ?_) AllReadyH.nil;go_simp
 clear hHeld;refine hK.out _ _ ?_ (fun hHeld=> ?_)
 ·exact HCE _ (((aS8 _ _).drew).alloc (aS5 _) _)
 clear hK K;try simp only[Act.put,aS4,aS2,aS1,aR8,aR9,aS0]
 refine tkH_ (i:=19) (v:=(.slice (some (a_ V.heap.size 0)) 1 1)) rfl (by kernel_rfl) (fun _ _ _ h=>h) (aT2 ⟨by rfl,?_⟩) hHeld ?_
 ·(intro wz hSz;go_simp)
 try simp only[Act.put,aS4,aS2,aS1,aR8,aR9,aS0]
 refine tkH_ (i:=20) (v:=(.bool true)) rfl (by kernel_rfl) (fun _ _ _ h=>h) (aT2 ⟨by rfl,?_⟩) hHeld ?_
 ·(intro wz hSz;go_simp)
 try simp only[Act.put,aS4,aS2,aS1,aR8,aR9,aS0]
 refine aY2 (by kernel_rfl) ?_ _;go_wp2;go_ret2;have hbz:gm V.heap.size V (V.drew.alloc (.cells #[.string fr] 9)):=((aS8 _ _).drew).alloc (aS5 _) _;have hbw:=HX5.1.trans (hbz.mono HX5.1.size);refine⟨V.heap.size,rfl,?_,HK.below hbw,⟨hbw.os,hbw.tape,hbw.output,hbw.size,fun j hj _=>hbw.block j hj⟩⟩;rw[gB HFR];exact Dm V.drew _ HX5.1.size
theorem ag3(k:At w H h)(c:NA w)(t0 t1 t2 t3 t4 t5:UInt8)(id fp tp:Int)(ld:ByteArray)(hid:0<=id/\id<=65535)(hta:0<=h.next/\h.next<=4294967295)(hfp:0<=fp/\fp<=65535)(htp:0<=tp/\tp<=65535)(h67:tp≠67)(hld:ld.size<=1472)(g:Tf.RH)(hg:ld=⟨(Tf.U7 g).toArray⟩)(hk:Tf.UU g=0)(hp:Tf.ZO g)(hb:g.block<65536)(Z:Ending->fV->Prop)
  (HD:∀u sa sc,At u H h->NA u->gm w.heap.size w u->Tf.X9 u sa g.fs->(∀ad,sa=some ad->w.heap.size<=ad.block)->f_ Vh 42 #[p_ H,.agg #[Vb Ve fp,Vb Ve tp,.string ld],.agg #[Vb Ve g.op,Vb Ve g.block,.string ⟨g.text.toArray⟩,.string ⟨g.data.toArray⟩,.slice sa g.fs.length sc]] u fun ee w'=>∃v1 v2,ee=.returned (.tuple #[v1,v2])/\Z ee w'):
  f_ Vh 23 #[p_ H,.string (og.ni [t0,t1,t2,t3,t4,t5,2,0,0,0,0,42] 2048 (Ip.Db id 64 17 167772215 h.next (Ud.sH fp tp 167772215 h.next ld)))] w Z:=by
 obtain⟨fr,hfrE⟩:∃fr:Int,fr=167772215:=⟨_,rfl⟩;obtain⟨ta,htaE⟩:∃ta:Int,ta=h.next:=⟨_,rfl⟩;rw[<-hfrE,<-htaE];rw[<-htaE]at hta;have hfr:0<=fr/\fr<=4294967295:=by rw[hfrE];decide
 obtain⟨z1,z2⟩:=Ye id fr ta fp tp ld;have HE:=M0 (Y4 t0 t1 t2 t3 t4 t5 2 0 0 0 0 42 2048 _ (by decide) (by decide) z1);have HI:=M0 (aN8 id 64 17 fr ta _ hid (by decide) (by decide) hfr hta z2);have HU:=M0 (aG1 fp tp fr ta ld hfp htp hfr hta hld);have hsz:=(Xj t0 t1 t2 t3 t4 t5 2 0 0 0 0 42 2048 _ (by decide) z1).1;have hmq:∀u,(Op.equalIn 10000 30 (.agg #[Vb Vd 2,Vb Vd 0,Vb Vd 0,Vb Vd 0,Vb Vd 0,Vb Vd 42]) (.agg #[Vb Vd 2,Vb Vd 0,Vb Vd 0,Vb Vd 0,Vb Vd 0,Vb Vd 42])).run Vh u=.ok true u:=fun u=>Sq.Yx 9998 2 0 0 0 0 42 u;generalize og.ni [t0,t1,t2,t3,t4,t5,2,0,0,0,0,42] 2048 (Ip.Db id 64 17 fr ta (Ud.sH fp tp fr ta ld))=sE at HE hsz ⊢;generalize WR (Ip.Db id 64 17 fr ta (Ud.sH fp tp fr ta ld))=sI at HE HI;generalize Ud.sH fp tp fr ta ld=sU at HI HU;have hs60: ¬(sE.size:Int)<60:=by omega
 have HK:=M0 k;have HC:=M0 c;have HDD:=M0 HD;clear k c HD z1 z2 hsz;have HTW:=M0 (fun u=>aG9 g ld hg hk hp hb (by have:=jc ld;rw[hg]at this;have e:(⟨(Tf.U7 g).toArray⟩:ByteArray).data.toList=Tf.U7 g:=rfl;rw[e]at this;rw[hg]at hld;omega) u);have g67:(tp==67)=false:=by simpa using h67
 have HFR:=M0 hfrE;have HTA:=M0 htaE;clear hg hk hp hb h67 hfrE htaE;go_enter func23,ntmps23;go_wp2_with fail;refine on_ (HE _) fun u1 hb1=>?_;have HC1:=M0 (HC.below hb1);obtain⟨g0,g1,g2,g3,g4,g5,_⟩:=gB HC1;have hc0:=HC1.lt.1;have hc1:(0:Nat)≠u1.heap.size:=aU4 hc0;have HB1:=M0 hb1;clear hb1 HE;go_wp2_with fail;obtain⟨eR,heR⟩:∃eR:Array Value,eR=#[Vb Vd t0.toNat,Vb Vd t1.toNat,Vb Vd t2.toNat,Vb Vd t3.toNat,Vb Vd t4.toNat,Vb Vd t5.toNat,Vb Vd 2,Vb Vd 0,Vb Vd 0,Vb Vd 0,Vb Vd 0,Vb Vd 42,Vb Ve 2048,.string sI]:=⟨_,rfl⟩;rw[<-heR];have HER:Hid (eR[12]?=some (Vb Ve 2048)):=M0 (by rw[heR];rfl);have HX1:Hid (gm w.heap.size w (u1.alloc (.cells eR 55))/\(u1.alloc (.cells eR 55)).heap[u1.heap.size]?=some (.cells eR 55 (0,0))):=M0 ⟨HB1.alloc HB1.size _,aS6 u1 _⟩;clear g0 g1 g2 g3 g4 g5 hc0 hc1 hmq heR HC1;refine on_ (HI _) fun u2 hb2=>?_;have HX2:Hid (gm w.heap.size w u2/\u2.heap[u1.heap.size]?=some (.cells eR 55 (0,0))):=M0 ⟨HX1.1.trans (hb2.mono HX1.1.size),Rm HX1.2 hb2⟩;clear hb2 HX1 HI HB1;obtain⟨d1,hd1⟩:=ex_ u1.heap.size;rw[<-hd1]at HX2 ⊢;clear hd1;go_wp2_with fail;have HX3:Hid (gm w.heap.size w (u2.alloc (.cells #[Vb Ve id,Vb Vd 64,Vb Vd 17,Vb Vf fr,Vb Vf ta,.string sU] 59))/\(u2.alloc (.cells #[Vb Ve id,Vb Vd 64,Vb Vd 17,Vb Vf fr,Vb Vf ta,.string sU] 59)).heap[d1]?=some (.cells eR 55 (0,0))/\(u2.alloc (.cells #[Vb Ve id,Vb Vd 64,Vb Vd 17,Vb Vf fr,Vb Vf ta,.string sU] 59)).heap[u2.heap.size]?=some (.cells #[Vb Ve id,Vb Vd 64,Vb Vd 17,Vb Vf fr,Vb Vf ta,.string sU] 59 (0,0))):=M0 ⟨HX2.1.alloc HX2.1.size _,Rm HX2.2 b1_,aS6 u2 _⟩;refine on_ (HU _) fun u3 hb3=>?_;obtain⟨d2,hd2⟩:=ex_ u2.heap.size;have HX4:Hid (gm w.heap.size w u3/\u3.heap[d1]?=some (.cells eR 55 (0,0))/\u3.heap[d2]?=some (.cells #[Vb Ve id,Vb Vd 64,Vb Vd 17,Vb Vf fr,Vb Vf ta,.string sU] 59 (0,0))):=M0 ⟨HX3.1.trans (hb3.mono HX3.1.size),Rm HX3.2.1 hb3,by rw[hd2];exact Rm HX3.2.2 hb3⟩;rw[<-hd2];clear hb3 HX3 HU HX2 hd2;have e12:u3.cell? (a_ d1 12)=some (Vb Ve 2048):=by rw[aS3 u3 _ 12 _ _ _ HX4.2.1];exact HER
 have i2:u3.cell? (a_ d2 2)=some (Vb Vd 17):=aS3 u3 _ 2 _ _ _ HX4.2.2;have n1:=gG HX4.2.1;have n2:=gG HX4.2.2;have n3:d1≠u3.heap.size:=aU4 n1;have n4:d2≠u3.heap.size:=aU4 n2;have HX5:Hid (gm w.heap.size w (u3.alloc (.cells #[Vb Ve fp,Vb Ve tp,.string ld] 69))):=M0 (HX4.1.alloc HX4.1.size _);go_wp2_with fail;refine(HTW _).mono ?_;rintro ee u4 ⟨sa,sc,rfl,ho4,hb4⟩;obtain⟨d3,hd3⟩:=ex_ u3.heap.size;rw[<-hd3];have HX6:Hid (gm w.heap.size w u4/\u4.heap[d2]?=some (.cells #[Vb Ve id,Vb Vd 64,Vb Vd 17,Vb Vf fr,Vb Vf ta,.string sU] 59 (0,0))/\u4.heap[d3]?=some (.cells #[Vb Ve fp,Vb Ve tp,.string ld] 69 (0,0))/\u4.ownsRow w.heap.size 146 2 (.slice sa g.fs.length sc) g.fs.length (Tf.Rf g.fs)):=M0 (by
  refine⟨HX5.trans (hb4.mono HX5.size),Rm (Rm HX4.2.2 b1_) hb4,by rw[hd3];exact Rm (aS6 u3 _) hb4,?_⟩
  exact⟨ho4.1,ho4.2.imp (fun z=>z) (fun⟨g',cap,cur,e1,e2,e3⟩=>⟨g',cap,cur,e1,aT9 HX5.size e2,e3⟩)⟩)
 clear ho4 hb4 HTW HX5 HX4 e12 i2 n1 n2 n3 n4 hd3;obtain⟨X,hX⟩:=ex_ (u4.alloc (.cells #[Vb Ve g.op,Vb Ve g.block,.string ⟨g.text.toArray⟩,.string ⟨g.data.toArray⟩,.slice sa g.fs.length sc] 96));obtain⟨d4,hd4⟩:=ex_ u4.heap.size;have HX7:Hid (gm w.heap.size w X/\X.heap[d2]?=some (.cells #[Vb Ve id,Vb Vd 64,Vb Vd 17,Vb Vf fr,Vb Vf ta,.string sU] 59 (0,0))/\X.heap[d3]?=some (.cells #[Vb Ve fp,Vb Ve tp,.string ld] 69 (0,0))/\X.heap[d4]?=some (.cells #[Vb Ve g.op,Vb Ve g.block,.string ⟨g.text.toArray⟩,.string ⟨g.data.toArray⟩,.slice sa g.fs.length sc] 96 (0,0))/\X.ownsRow w.heap.size 146 2 (.slice sa g.fs.length sc) g.fs.length (Tf.Rf g.fs)):=M0 (by
  have hb:gm u4.heap.size u4 X:=by rw[hX];exact(aS8 _ _).alloc (aS5 _) _
  exact⟨HX6.1.trans (hb.mono HX6.1.size),Rm HX6.2.1 hb,Rm HX6.2.2.1 hb,by rw[hX,hd4];exact aS6 u4 _,iN HX6.2.2.2 (fun j hj=>hb.block j (HX6.2.2.2.lt j hj).2)⟩)
 go_wp2_with fail;rw[<-hX,<-hd4];clear hX hd4 HX6;have i3:X.cell? (a_ d2 3)=some (Vb Vf 167772215):=by rw[<-gB HFR];exact aS3 X _ 3 _ _ _ HX7.2.1
 have i4:X.cell? (a_ d2 4)=some (Vb Vf ta):=aS3 X _ 4 _ _ _ HX7.2.1;have r2:X.cell? (a_ H 2)=some (Vb Vf ta):=by rw[gB HTA];exact(HK.below HX7.1).cell 2
 go_quiet (fail);obtain⟨Y,hY⟩:=ex_ (X.drewN nq);have HY:Hid (gm w.heap.size w Y/\Y.heap=X.heap):=M0 (by rw[hY];exact⟨below_drewN HX7.1 _,rfl⟩);have y3:Y.heap[d3]?=some (.cells #[Vb Ve fp,Vb Ve tp,.string ld] 69 (0,0)):=by rw[HY.2];exact HX7.2.2.1
 have y4:Y.heap[d4]?=some (.cells #[Vb Ve g.op,Vb Ve g.block,.string ⟨g.text.toArray⟩,.string ⟨g.data.toArray⟩,.slice sa g.fs.length sc] 96 (0,0)):=by rw[HY.2];exact HX7.2.2.2.1
 have HYO:Hid (Y.ownsRow w.heap.size 146 2 (.slice sa g.fs.length sc) g.fs.length (Tf.Rf g.fs)):=M0 (iN HX7.2.2.2.2 (fun j _=>by rw[HY.2]));rw[<-hY];clear hY i3 i4 r2 HX7;obtain⟨a0,a1,a2⟩:=Gf y3;obtain⟨b0,b1,b2,b3,b4⟩:=aF3 y4;have HCL:=M0 (HDD Y sa sc (HK.below HY.1) (HC.below HY.1) HY.1 (ac0 HYO) (fun ad e=>by subst e;exact(HYO.lt ad.block rfl).1));clear y3 y4;go_wp2_with fail;refine HCL.mono ?_;rintro ee u5 ⟨v1,v2,rfl,hz⟩;have HZ:=M0 hz;clear hz HDD HCL;go_wp2;exact HZ
end Ho
namespace Ho
open Bs Js
variable{w0:fV} {P:Nat→Prop} {w w':fV} {B Q:Nat} {m m':Mc}
theorem am8(h:Mx w0 P w B m)(hp:m.phase=3):f_ Vh 35 #[p_ B] w fun ee w'=>ee=.returned (.tuple #[.string ⟨m.ql.toArray⟩,.bool true])/\w'=w:=by
 have c40:=h.c40;rw[hp]at c40;have RX:=h.RX;have hcv:=oL w 0 m.img m.ql h.image;obtain⟨iv,hiv⟩:=ex_ m.img;rw[<-hiv]at RX hcv;clear h hiv hp;go_enter func35,ntmps35;go_wp2;go_ret2;exact⟨rfl,rfl⟩
theorem Zt(h:Bx w0 P w Q B m)(hp:m.phase=3):f_ Vh 21 #[p_ Q] w fun ee w'=>ee=.returned (.tuple #[.string ⟨m.ql.toArray⟩,.bool true])/\w'=w:=by
 have HM:=M0 (kP h);have HT:=M0 (am8 h.mx hp);clear h hp;generalize(⟨m.ql.toArray⟩:ByteArray)=s at*;go_enter func21,ntmps21;go_wp2_with fail;refine HM.mono ?_;rintro ee u ⟨rfl,rfl⟩;go_wp2_with fail;refine HT.mono ?_;rintro ee u ⟨rfl,rfl⟩;go_wp2;go_ret2;exact⟨rfl,rfl⟩
theorem aD8(h:Bx w0 P w Q B m)(hp:m.phase=3)(s:ByteArray)(hs:s=⟨m.ql.toArray⟩):f_ Vh 12 #[p_ Q,.string s] w fun ee w'=>ee=.returned (.bool true)/\gm w.heap.size w w':=by
 have HI:=M0 (Zt h hp);rw[<-hs]at HI;have HL:=M0 (DC h);rw[hp]at HL;have hfl:=fun u=>ao5 m.now m.st 3 m.addr m.boots m.ql.length m.lost m.cached u;clear h hp hs;go_enter func12,ntmps12;go_wp2_with fail;refine HI.mono ?_;rintro ee u ⟨rfl,rfl⟩;go_wp2_with fail;refine on_ HL fun u2 hb=>?_;have HB:=M0 hb;clear hb;go_wp2;go_ret;exact⟨rfl,HB⟩
end Ho
end Go.Proofs.YtdgacidndknceaaGreatDoor
