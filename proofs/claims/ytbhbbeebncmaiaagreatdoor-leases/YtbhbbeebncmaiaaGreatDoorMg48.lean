import Derived.Test.YtbhbbeebncmaiaaGreatDoorMg20
import Derived.Test.YtbhbbeebncmaiaaGreatDoorMg42
import Derived.Deep.SlicePairs
import Derived.SizedLaws
set_option linter.all false
set_option maxHeartbeats 4000000
set_option maxRecDepth 10000
open Go.ChangeShapes Go.WideShapes Go.ChangeAt Go.RowKit
open Go renaming World → fV, Calls → f_
open Go.Proofs.Tryz renaming prog → Vh
open Go.Value renaming int → Vb
open Go.IntKind renaming u8 → Vd, u16 → Ve, u32 → Vf, i64 → Vg
open Go.Proofs.Tryz
namespace Go.Proofs.YtbhbbeebncmaiaaGreatDoor
namespace Oj
open Bs Js
instance:Inhabited Aw:=⟨⟨0,0,0,⟨0,0,0,0,0,0,⟨#[]⟩,0,⟨#[]⟩,0,0,0,0⟩,⟨#[]⟩⟩⟩
theorem JK:prog.cellsOf 30=17:=by kernel_rfl
theorem LG:prog.cellsOf 28=13:=by kernel_rfl
theorem En:prog.cellsOf 3=1:=by kernel_rfl
theorem zZ:prog.cellsOf 9=1:=by kernel_rfl
theorem Oh:prog.cellsOf 26=6:=by kernel_rfl
theorem P9:1<=prog.bytesOf 30:=by
 have:prog.bytesOf 30=120:=by kernel_rfl
 omega
theorem UZ{n:Int}(h:(Lit.int .i64 n).wf=true): -9223372036854775808<=n/\n<=9223372036854775807:=by
 simpa[Lit.wf,IntKind.min,IntKind.max,IntKind.signed,IntKind.bits]using h
theorem QL(l:List Value)(h:l.length=17):∃a0 a1 a2 a3 a4 a5 a6 a7 a8 a9 a10 a11 a12 a13 a14 a15 a16,l=[a0,a1,a2,a3,a4,a5,a6,a7,a8,a9,a10,a11,a12,a13,a14,a15,a16]:=by
 match l,h with
 |[a0,a1,a2,a3,a4,a5,a6,a7,a8,a9,a10,a11,a12,a13,a14,a15,a16],_=>exact⟨a0,a1,a2,a3,a4,a5,a6,a7,a8,a9,a10,a11,a12,a13,a14,a15,a16,rfl⟩
section
variable{H:Type} {P:Program}
theorem oU{t tj:TypeId}{fs:Array Field}{parts:List (DataW H)}{j:Nat}{dj:DataW H}{n:Nat}(hu:P.underlying t=some (.struct fs))(ht:(fs.toList.map (·.type))[j]?=some tj)(hd:parts[j]?=some dj)(hn:n ∈ dj.weights P tj):n ∈ (DataW.agg parts).weights P t:=by
 unfold DataW.weights
 rw[hu]
 exact DataW.weights_mem_each ht hd n hn
theorem Px{e:TypeId}{l:List (DataW H)}{d:DataW H}{n:Nat}(hd:d ∈ l)(hn:n ∈ d.weights P e):n ∈ DataW.weightsAll P e l:=by
 induction l with
 |nil=>cases hd
 |cons x r ih=>
  simp only[DataW.weightsAll,dV]
  rcases List.mem_cons.1 hd with rfl|h
  ·exact au hn
  ·exact aA (ih h)
theorem PE{t e:TypeId}{elems spare:List (DataW H)}(hu:P.underlying t=some (.slice e)):(elems.length+spare.length)*P.bytesOf e ∈ (DataW.slice elems spare).weights P t:=by
 unfold DataW.weights
 rw[hu]
 exact List.mem_cons_self
theorem KN{t e:TypeId}{elems spare:List (DataW H)}{d:DataW H}{n:Nat}(hu:P.underlying t=some (.slice e))(hd:d ∈ elems)(hn:n ∈ d.weights P e):n ∈ (DataW.slice elems spare).weights P t:=by
 unfold DataW.weights
 rw[hu]
 exact List.mem_cons_of_mem _ (dV.2 (au (Px hd hn)))
theorem Dk(t:TypeId)(l:List UInt8):l.length ∈ (DataW.lit (.string l):DataW H).weights P t:=by simp[DataW.weights]
end
variable{H:Type} {enc:TypeId×Value→H} {w:fV} {base:Nat} {spare:Nat→Bool} {held:Bool} {fuel:Nat} {cs:List Value} {x:DataW H×List MemPlace}
theorem Pg(h:DataW.trod enc Vh w base spare held fuel 30 cs=some x)(hw:∀n ∈ x.1.weights Vh 30,n<=reachBytes):∃o:Aw,cs=o.vals.toList/\o.Lo:=by
 obtain⟨xs,n,_,hxx,hl,hx,hi⟩:=DataW.trod_struct underlying30 h
 rw[JK]at hl
 have hx':xs.length=5:=hx
 match xs,hx' with
 |[y0,y1,y2,y3,y4],_=>
  have g0:DataW.trod enc Vh w base spare held n 3 ((cs.drop 0).take (prog.cellsOf 3))=some y0:=hi 0 _ rfl
  have g1:DataW.trod enc Vh w base spare held n 3 ((cs.drop 1).take (prog.cellsOf 3))=some y1:=hi 1 _ rfl
  have g2:DataW.trod enc Vh w base spare held n 3 ((cs.drop 2).take (prog.cellsOf 3))=some y2:=hi 2 _ rfl
  have g3:DataW.trod enc Vh w base spare held n 28 ((cs.drop 3).take (prog.cellsOf 28))=some y3:=hi 3 _ rfl
  have g4:DataW.trod enc Vh w base spare held n 9 ((cs.drop 16).take (prog.cellsOf 9))=some y4:=hi 4 _ rfl
  rw[En]at g0 g1 g2
  rw[LG]at g3
  rw[zZ]at g4
  obtain⟨kd,e0,_,w0⟩:=dA dm g0
  obtain⟨a,e1,_,w1⟩:=dA dm g1
  obtain⟨nn,e2,_,w2⟩:=dA dm g2
  obtain⟨s,e4,d4,_⟩:=DataW.trod_string bI g4
  obtain⟨zs,n2,_,hzz,hl2,hx2,hi2⟩:=DataW.trod_struct underlying28 g3
  have hx2':zs.length=8:=hx2
  match zs,hx2' with
  |[z0,z1,z2,z3,z4,z5,z6,z7],_=>
   obtain⟨cc,hcc⟩:∃cc,cc=(cs.drop 3).take 13:=⟨_,rfl⟩
   rw[<-hcc]at hi2 hl2
   have q0:DataW.trod enc Vh w base spare held n2 26 ((cc.drop 0).take (prog.cellsOf 26))=some z0:=hi2 0 _ rfl
   have q1:DataW.trod enc Vh w base spare held n2 9 ((cc.drop 6).take (prog.cellsOf 9))=some z1:=hi2 1 _ rfl
   have q2:DataW.trod enc Vh w base spare held n2 3 ((cc.drop 7).take (prog.cellsOf 3))=some z2:=hi2 2 _ rfl
   have q3:DataW.trod enc Vh w base spare held n2 9 ((cc.drop 8).take (prog.cellsOf 9))=some z3:=hi2 3 _ rfl
   have q4:DataW.trod enc Vh w base spare held n2 3 ((cc.drop 9).take (prog.cellsOf 3))=some z4:=hi2 4 _ rfl
   have q5:DataW.trod enc Vh w base spare held n2 3 ((cc.drop 10).take (prog.cellsOf 3))=some z5:=hi2 5 _ rfl
   have q6:DataW.trod enc Vh w base spare held n2 3 ((cc.drop 11).take (prog.cellsOf 3))=some z6:=hi2 6 _ rfl
   have q7:DataW.trod enc Vh w base spare held n2 3 ((cc.drop 12).take (prog.cellsOf 3))=some z7:=hi2 7 _ rfl
   rw[Oh]at q0
   rw[zZ]at q1 q3
   rw[En]at q2 q4 q5 q6 q7
   obtain⟨k0,k1,k2,k3,k4,k5,f0⟩:=Op.Lx q0
   obtain⟨name,f1,d1,_⟩:=DataW.trod_string bI q1
   obtain⟨cap,f2,_,_⟩:=dA dm q2
   obtain⟨gQ,f3,d3,_⟩:=DataW.trod_string bI q3
   obtain⟨blk,f4,_,_⟩:=dA dm q4
   obtain⟨win,f5,_,_⟩:=dA dm q5
   obtain⟨rx,f6,_,_⟩:=dA dm q6
   obtain⟨tx,f7,_,_⟩:=dA dm q7
   have hr:reachBytes<=140737488355328:=by decide
   have hz:∀s:ByteArray,s.data.toList.length=s.size:=fun s=>by rw[aF];rfl
   have b4:s.data.toList.length<=reachBytes:=hw _ (by
    rw[hxx]
    exact oU underlying30 (j:=4) rfl rfl (by show _ ∈ DataW.weights Vh 9 y4.1;rw[show y4.1=.lit (.string s.data.toList)from aZ Prod.fst d4];exact Dk _ _))
   have b1:name.data.toList.length<=reachBytes:=hw _ (by
    rw[hxx]
    refine oU underlying30 (j:=3) rfl rfl ?_
    show _ ∈ DataW.weights Vh 28 y3.1
    rw[hzz]
    exact oU underlying28 (j:=1) rfl rfl (by show _ ∈ DataW.weights Vh 9 z1.1;rw[show z1.1=.lit (.string name.data.toList)from aZ Prod.fst d1];exact Dk _ _))
   have b3:gQ.data.toList.length<=reachBytes:=hw _ (by
    rw[hxx]
    refine oU underlying30 (j:=3) rfl rfl ?_
    show _ ∈ DataW.weights Vh 28 y3.1
    rw[hzz]
    exact oU underlying28 (j:=3) rfl rfl (by show _ ∈ DataW.weights Vh 9 z3.1;rw[show z3.1=.lit (.string gQ.data.toList)from aZ Prod.fst d3];exact Dk _ _))
   rw[hz]at b4 b1 b3
   refine⟨⟨kd,a,nn,⟨k0,k1,k2,k3,k4,k5,name,cap,gQ,blk,win,rx,tx⟩,s⟩,?_,UZ w1,aG b4 hr,aG b1 hr,aG b3 hr⟩
   obtain⟨c0,c1,c2,c3,c4,c5,c6,c7,c8,c9,c10,c11,c12,c13,c14,c15,c16,rfl⟩:=QL cs hl
   subst hcc
   simp at e0 e1 e2 e4 f0 f1 f2 f3 f4 f5 f6 f7
   obtain⟨r1,r2,r3,r4,r5,r6⟩:=f0
   subst e0 e1 e2 e4 f1 f2 f3 f4 f5 f6 f7 r1 r2 r3 r4 r5 r6
   rfl
theorem Np(h:DataW.trod enc Vh w base spare held fuel 22 cs=some x)(hw:∀n ∈ x.1.weights Vh 22,n<=reachBytes):
  ∃(sa:Option Addr) (sc:Nat) (ops:List Aw),cs=[.slice sa ops.length sc]/\Sp w sa ops/\ops.length<=140737488355328/\∀o ∈ ops,o.Lo:=by
 rcases Go.Deep.open_slice underlying22 h with⟨rfl,rfl⟩|⟨a,len,cap,m,n,D,Pl,rfl,_,hlc,_,hm,rfl,hx⟩
 ·exact⟨none,0,[],rfl,fun j hj=>by simp at hj,by simp,fun o ho=>by cases ho⟩
 have hlm:len<=m:=by rw[hm];split<;>omega
 have hwt:∀n,n ∈ ((.slice ((List.range len).map D) ((List.range (m-len)).map fun j=>D (len+j)):DataW H)).weights Vh 22->n<=reachBytes:=hw
 have hlen1:len<=reachBytes:=by
  have q:=hwt _ (PE underlying22)
  rw[di,di,List.length_range,List.length_range]at q
  have b:=P9
  have:len<=(len+(m-len))*prog.bytesOf 30:=aG (by omega) (Nat.le_mul_of_pos_right _ b)
  exact aG this q
 obtain⟨O,hO⟩:=Go.Deep.choose_lt (α:=Aw) (n:=len) (p:=fun i (o:Aw)=>(∀j v,o.vals.toList[j]?=some v->w.cell? ((a.add (i*17)).add j)=some v)/\o.Lo) (fun i hi=>by
  obtain⟨cs',h1,h2⟩:=hx i (by omega)
  obtain⟨o,ho,hlo⟩:=Pg h2 (fun k hk=>hwt k (KN underlying22 (dO.2 ⟨i,List.mem_range.2 hi,rfl⟩) hk))
  rw[JK]at h1
  obtain⟨_,hl,hc⟩:=World.cells?_some h1
  refine⟨o,fun j v hv=> ?_,hlo⟩
  rw[hc j (by
   have:o.vals.toList.length=17:=rfl
   have:=(eF.1 hv).1
   omega),ho]
  exact hv)
 have hlen:((List.range len).map O).length=len:=by simp
 have hr:reachBytes<=140737488355328:=by decide
 refine⟨some a,cap,(List.range len).map O,by rw[hlen],fun j hj=>⟨a,rfl,fun i v hv=> ?_⟩,by rw[hlen];exact aG hlen1 hr,fun o ho=> ?_⟩
 ·rw[hlen]at hj
  refine(hO j hj).1 i v ?_
  simpa using hv
 ·obtain⟨i,hi,rfl⟩:=dO.1 ho
  exact(hO i (List.mem_range.1 hi)).2
end Oj
namespace Oj
open Bs Js Ref
variable{m:Mc} {r:Rf} {d:Int}
theorem qL(hs:m.st<4):m.addr=0:=by
 unfold Mc.addr
 rw[ay hs]
end Oj
namespace Oj
open Bs Js Ref
open Dh (gU)
variable{m m':Mc} {r r':Rf} {d:Int}
structure nu (m:Mc) (r:Rf):Prop where
 k0:r.k0=m.k0
 k1:r.k1=m.k1
 k2:r.k2=m.k2
 k3:r.k3=m.k3
 k4:r.k4=m.k4
 k5:r.k5=m.k5
 rx:r.rx=m.rx
 tx:r.tx=m.tx
 rl:r.rl=m.cq
 tl:r.tl=m.gq
 lost:r.lost=m.lost
 id:m.id=r.id%65536
 now:r.now=m.now
 draw:r.draw=m.draw
 gF:r.gF=m.gF
 gK:r.gK=m.st
 sends:r.sends=m.ws
 again:r.again=if m.st=3 then wrap64 (m.gr+2)else m.wu
 phase:r.phase=m.phase
 gZ:r.gZ=m.gZ
 iB:r.iB=m.iB
 iO:r.iO=m.iO
 cv:r.cv=.slice none 0 0
 iv:r.iv=.slice none 0 0
 img:m.ql=[]
 t:∃tp,r.t=.pointer tp
structure ig (m:Mc) (r:Rf):Prop where
 late:m.Late
 e:nu m r
 sz:∀s ∈ m.cq,s.size<=65536
theorem nu.jU(h:nu m r)(d:Int):nu (m.clock d) (r.jU d):=
 ⟨h.k0,h.k1,h.k2,h.k3,h.k4,h.k5,h.rx,h.tx,h.rl,h.tl,h.lost,h.id,by show wrap64 (r.now+1)=wrap64 (m.now+1);rw[h.now],rfl,h.gF,h.gK,h.sends,h.again,h.phase,h.gZ,h.iB,h.iO,h.cv,h.iv,h.img,h.t⟩
theorem nu.at(h:nu m r)(b:Nat):nu (m.at b) r:=
 ⟨h.k0,h.k1,h.k2,h.k3,h.k4,h.k5,h.rx,h.tx,h.rl,h.tl,h.lost,h.id,h.now,h.draw,h.gF,h.gK,h.sends,h.again,h.phase,h.gZ,h.iB,h.iO,h.cv,h.iv,h.img,h.t⟩
theorem nu.sent(h:nu m r)(F:ByteArray)(v:Value):nu (m.sent F) (r.mP F v):=by
 unfold Mc.sent Rf.mP
 have e:(r.tl.length=r.tx)=(m.gq.length=m.tx):=by rw[h.tl,h.tx]
 by_cases hq:m.gq.length=m.tx
 ·rw[ay hq,ay (by rw[e];exact hq)]
  exact⟨h.k0,h.k1,h.k2,h.k3,h.k4,h.k5,h.rx,h.tx,h.rl,h.tl,by show wrap64 (r.lost+1)=wrap64 (m.lost+1);rw[h.lost],h.id,h.now,h.draw,h.gF,h.gK,h.sends,h.again,h.phase,h.gZ,h.iB,h.iO,h.cv,h.iv,h.img,h.t⟩
 ·rw[ax hq,ax (by rw[e];exact hq)]
  exact⟨h.k0,h.k1,h.k2,h.k3,h.k4,h.k5,h.rx,h.tx,h.rl,by show r.tl++ [F]=m.gq++ [F];rw[h.tl],h.lost,h.id,h.now,h.draw,h.gF,h.gK,h.sends,h.again,h.phase,h.gZ,h.iB,h.iO,h.cv,h.iv,h.img,h.t⟩
theorem nu.say(h:nu m r)(ha:m.addr=0)(kb:UInt8)(os:gU)(v:Value):nu (m.say kb os) (r.jV kb os v):=by
 have hF:og.ni ([255,255,255,255,255,255]++m.LK.card) 2048 (m.lD 4294967295 68 67 (m.qz kb os))=og.ni [255,255,255,255,255,255,r.k0,r.k1,r.k2,r.k3,r.k4,r.k5] 2048 (r.lD (r.Fy kb os)):=by
  unfold Rf.lD Rf.Fy Mc.lD Mc.qz
  rw[ha,h.k0,h.k1,h.k2,h.k3,h.k4,h.k5,h.gF,h.id]
  rfl
 have h1:nu m.LK {r with id:=wrap64 (r.id+1)}:=
  ⟨h.k0,h.k1,h.k2,h.k3,h.k4,h.k5,h.rx,h.tx,h.rl,h.tl,h.lost,by
   show IntKind.u16.wrap (m.id+1)=wrap64 (r.id+1)%65536
   have:=h.id
   rw[Vu]
   unfold wrap64
   omega,h.now,h.draw,h.gF,h.gK,h.sends,h.again,h.phase,h.gZ,h.iB,h.iO,h.cv,h.iv,h.img,h.t⟩
 have h2:=h1.sent (og.ni [255,255,255,255,255,255,r.k0,r.k1,r.k2,r.k3,r.k4,r.k5] 2048 (r.lD (r.Fy kb os))) v
 rw[<-hF]at h2
 unfold Rf.jV
 rw[<-hF]
 exact h2
theorem Ga(r:Rf)(v:Value):r.pU 1 v=r.jV 1 [] v:=rfl
theorem nu.ask(h:nu m r)(a:Int)(v:Value):nu (m.ask a) (r.yR 0 a v):=by
 have hF:og.ni ([255,255,255,255,255,255]++m.card) 2054 (m.Ej a)=og.ni [255,255,255,255,255,255,r.k0,r.k1,r.k2,r.k3,r.k4,r.k5] 2054 (rO.vE 1 [r.k0,r.k1,r.k2,r.k3,r.k4,r.k5] 0 [0,0,0,0,0,0] a):=by
  unfold Mc.Ej
  rw[h.k0,h.k1,h.k2,h.k3,h.k4,h.k5]
  rfl
 have h2:=h.sent (og.ni [255,255,255,255,255,255,r.k0,r.k1,r.k2,r.k3,r.k4,r.k5] 2054 (rO.vE 1 [r.k0,r.k1,r.k2,r.k3,r.k4,r.k5] 0 [0,0,0,0,0,0] a)) v
 rw[<-hF]at h2
 unfold Rf.yR
 rw[<-hF]
 exact h2
theorem nu.off(h:nu m r):nu (({m with gF:=m.draw}:Mc).n_.jR) (({r with gF:=r.draw}:Rf).kw):=
 ⟨h.k0,h.k1,h.k2,h.k3,h.k4,h.k5,h.rx,h.tx,h.rl,h.tl,h.lost,h.id,h.now,h.draw,h.draw,rfl,rfl,by
  show wrap64 (r.now+lQ 0 r.draw)=if(1:Int)=3 then _ else wrap64 (m.now+(2*2 ^ (0:Int).toNat+m.draw%3-1))
  rw[ax (by decide),h.now,h.draw]
  rfl,h.phase,h.gZ,h.iB,h.iO,h.cv,h.iv,h.img,h.t⟩
theorem nu.Ug(h:nu m r)(yo sv:Int):nu ((m.offers yo sv).oV.jR) ((r.offers yo sv).Ao):=
 ⟨h.k0,h.k1,h.k2,h.k3,h.k4,h.k5,h.rx,h.tx,h.rl,h.tl,h.lost,h.id,h.now,h.draw,h.gF,rfl,rfl,by
  show wrap64 (r.now+lQ 0 r.draw)=if(2:Int)=3 then _ else wrap64 (m.now+(2*2 ^ (0:Int).toNat+m.draw%3-1))
  rw[ax (by decide),h.now,h.draw]
  rfl,h.phase,h.gZ,rfl,rfl,h.cv,h.iv,h.img,h.t⟩
theorem nu.more(h:nu m r)(hw:0<=m.ws)(h3:m.st≠3):nu m.jR (r.more r.sends.toNat):=
 ⟨h.k0,h.k1,h.k2,h.k3,h.k4,h.k5,h.rx,h.tx,h.rl,h.tl,h.lost,h.id,h.now,h.draw,h.gF,h.gK,by
  show((r.sends.toNat:Nat):Int)+1=m.ws+1
  rw[h.sends];omega,by
  show wrap64 (r.now+lQ r.sends.toNat r.draw)=if m.st=3 then _ else wrap64 (m.now+(2*2 ^ m.ws.toNat+m.draw%3-1))
  rw[ax h3,h.now,h.draw,h.sends]
  rfl,h.phase,h.gZ,h.iB,h.iO,h.cv,h.iv,h.img,h.t⟩
theorem nu.drop(h:nu m r):nu m.drop r.nQ:=
 ⟨h.k0,h.k1,h.k2,h.k3,h.k4,h.k5,h.rx,h.tx,h.rl,h.tl,h.lost,h.id,h.now,h.draw,rfl,rfl,rfl,by show(0:Int)=if(0:Int)=3 then _ else 0;rw[ax (by decide)],rfl,h.gZ,rfl,rfl,rfl,rfl,rfl,h.t⟩
theorem nu.fail(h:nu m r):nu m.fail r.ku:=by
 have h:=h.drop
 unfold Mc.fail Rf.ku
 rw[show r.gZ=m.gZ from h.gZ]
 split
 ·exact⟨h.k0,h.k1,h.k2,h.k3,h.k4,h.k5,h.rx,h.tx,h.rl,h.tl,h.lost,h.id,h.now,h.draw,h.gF,h.gK,h.sends,h.again,rfl,rfl,h.iB,h.iO,h.cv,h.iv,h.img,h.t⟩
 ·exact⟨h.k0,h.k1,h.k2,h.k3,h.k4,h.k5,h.rx,h.tx,h.rl,h.tl,h.lost,h.id,h.now,h.draw,h.gF,h.gK,h.sends,h.again,h.phase,rfl,h.iB,h.iO,h.cv,h.iv,h.img,h.t⟩
theorem nu.grant(h:nu m r)(sv ne:Int)(os:gU)(q:yJ.Ul)(t:Int):nu (m.grants sv q) (r.nG sv ne os t):=
 ⟨h.k0,h.k1,h.k2,h.k3,h.k4,h.k5,h.rx,h.tx,h.rl,h.tl,h.lost,h.id,h.now,h.draw,h.gF,rfl,h.sends,by
  show wrap64 (r.now+2)=if(3:Int)=3 then wrap64 (m.now+2)else _
  rw[ay rfl,h.now],h.phase,h.gZ,h.iB,rfl,h.cv,h.iv,h.img,h.t⟩
theorem BG(h:m.Late):m.addr=0:=qL (by have:=h.st;omega)
theorem Lv{os:gU}(hd:∀c,Dh.data os c=(Dh.look os c).getD [])(c:UInt8):yJ.four (Dh.data os c)=ja os c:=by
 rw[hd c]
 show yJ.four (jO os c)=ja os c
 unfold ja
 by_cases h4:(jO os c).length=4
 ·rw[ay h4]
  obtain⟨a,b,c',d,e1,e2⟩:=yJ.xq h4
  rw[e2,e1,SL];rfl
 ·rw[ax h4];exact yJ.xQ h4
theorem Ns{os:gU}(hd:∀c,Dh.data os c=(Dh.look os c).getD []):yJ.pF os=tT os:=by
 unfold yJ.pF tT
 rw[Lv hd 51]
 cases ja os 51 with
 |none=>rfl
 |some t=>rfl
theorem nu.oC(h:nu m r)(hl:m.Late)(kd sv yo ne:Int)(os:gU)(hd:∀c,Dh.data os c=(Dh.look os c).getD [])(v:Value):nu (m.oC kd sv yo ne os) (r.oC kd sv yo ne os v):=by
 unfold Mc.oC Rf.oC
 rw[h.gK,h.iB,h.iO]
 split
 ·split
  ·have q:=(h.Ug yo sv).say (qL (by show(2:Int)<4;decide)) 3 (r.offers yo sv).mV v
   exact q
  ·exact h
 ·split
  ·split
   ·rename_i hc
    unfold Mc.yQ
    rw[Ns hd]
    cases tT os with
    |none=>exact h
    |some t=>
     have q:=(h.grant sv ne os (yJ.kS os ne sv t) t).ask m.iB v
     exact q
   ·exact h
  ·split
   ·split
    ·exact h.drop
    ·exact h
   ·exact h
theorem nu.other(h:nu m r)(f0 f1 f2 f3 f4 f5:Int):r.tQ f0 f1 f2 f3 f4 f5=m.other f0 f1 f2 f3 f4 f5:=by
 unfold Rf.tQ Mc.other
 rw[h.k0,h.k1,h.k2,h.k3,h.k4,h.k5]
theorem nu.ru(h:nu m r)(a0 a1 a2 a3 a4 a5:Int):ji r a0 a1 a2 a3 a4 a5=ru m a0 a1 a2 a3 a4 a5:=by
 unfold ji Js.ru
 rw[h.k0,h.k1,h.k2,h.k3,h.k4,h.k5]
theorem nu.qB(h:nu m r)(rep:Bool)(gF d0 d1 d2 d3 d4 d5:Int):uY r rep gF d0 d1 d2 d3 d4 d5=Js.qB m rep gF d0 d1 d2 d3 d4 d5:=by
 unfold uY Js.qB
 rw[h.k0,h.k1,h.k2,h.k3,h.k4,h.k5,h.gF]
theorem nu.zg(h:nu m r)(hl:m.Late)(f0 f1 f2 f3 f4 f5 fip:Int)(v:Value):nu (m.zg f0 f1 f2 f3 f4 f5 fip) (r.zg f0 f1 f2 f3 f4 f5 fip v):=by
 unfold Mc.zg Rf.zg
 rw[h.gK,h.iB,h.other]
 split
 ·have e:m.qD=r.mV:=by unfold Mc.qD Rf.mV;rw[h.iB,h.iO]
  rw[e]
  exact(h.say (BG hl) 4 r.mV v).fail
 ·exact h
theorem nu.on(h:nu m r)(hl:m.Late)(d:Fr)(hd:d.Ok)(v:Value):nu (m.on d) (r.yS d v):=by
 cases d with
 |no=>exact h
 |D7 a0 a1 a2 a3 a4 a5 f0 f1 f2 f3 f4 f5 fip=>
  unfold Mc.on Rf.yS
  simp only
  rw[h.ru]
  split
  ·exact h.zg hl _ _ _ _ _ _ _ v
  ·exact h
 |dh a0 a1 a2 a3 a4 a5 rep gF yo ne d0 d1 d2 d3 d4 d5 os=>
  obtain⟨h1,h2,h3,h4⟩:=hd
  unfold Mc.on Rf.yS
  simp only
  rw[h.ru]
  split
  ·unfold Mc.Mj Rf.GV
   rw[h.qB]
   split
   ·cases lJ os with
    |none=>exact h
    |some q=>obtain⟨kd,sv⟩:=q;exact h.oC hl kd sv yo ne os h4 v
   ·exact h
  ·exact h
theorem nu.tick(h:nu m r)(he:m.Late)(d:Int)(v:Value):nu (m.nY d) (r.lm d v):=by
 have hc:=h.jU d
 have hs4:(m.clock d).st<4:=by show m.st<4;have:=he.st;omega
 unfold Mc.nY Rf.lm
 rcases he.phase with hp|hp
 ·have e1:(m.clock d).ended=false:=by
   show(m.phase==3||m.phase==4)=false
   rw[hp];rfl
  have e2: ¬r.phase=4:=by rw[h.phase,hp];decide
  rw[e1,ax (by decide),ax e2,h.gK]
  unfold Mc.nz
  by_cases s0:m.st=0
  ·rw[ay s0,ay (show(m.clock d).st=0 from s0),Ga]
   exact hc.off.say (qL (by show(1:Int)<4;decide)) 1 [] v
  ·rw[ax s0,ax (show ¬(m.clock d).st=0 from s0)]
   by_cases s3:m.st=3
   ·rw[ay s3,ax (show ¬(m.clock d).st=1 from fun q=>by have q:m.st=1:=q;omega),ax (show ¬(m.clock d).st=2 from fun q=>by have q:m.st=2:=q;omega)]
    exact hc
   ·have hag:(r.jU d).again=(m.clock d).wu:=by rw[hc.again,ax (show ¬(m.clock d).st=3 from s3)]
    rw[ax s3]
    by_cases s1:m.st=1
    ·rw[ay (show(m.clock d).st=1 from s1)]
     unfold Mc.A_
     by_cases hn:(m.clock d).now<(m.clock d).wu
     ·rw[ay hn,ay (show(r.jU d).now<(r.jU d).again from by rw[hc.now,hag];exact hn)]
      exact hc
     ·rw[ax hn,ax (show ¬(r.jU d).now<(r.jU d).again from by rw[hc.now,hag];exact hn)]
      by_cases h4:m.ws=4
      ·rw[ay (show(m.clock d).ws=4 from h4),ay (show r.sends=4 from by rw[h.sends];exact h4)]
       exact hc.fail
      ·rw[ax (show ¬(m.clock d).ws=4 from h4),ax (show ¬r.sends=4 from by rw[h.sends];exact h4),ay s1,Ga]
       exact(hc.more he.ok.ws.1 s3).say (qL hs4) 1 [] v
    ·have s2:m.st=2:=by have:=he.st;omega
     rw[ax (show ¬(m.clock d).st=1 from s1),ay (show(m.clock d).st=2 from s2)]
     unfold Mc.Lm
     by_cases hn:(m.clock d).now<(m.clock d).wu
     ·rw[ay hn,ay (show(r.jU d).now<(r.jU d).again from by rw[hc.now,hag];exact hn)]
      exact hc
     ·rw[ax hn,ax (show ¬(r.jU d).now<(r.jU d).again from by rw[hc.now,hag];exact hn)]
      by_cases h4:m.ws=4
      ·rw[ay (show(m.clock d).ws=4 from h4),ay (show r.sends=4 from by rw[h.sends];exact h4)]
       exact hc.fail
      ·rw[ax (show ¬(m.clock d).ws=4 from h4),ax (show ¬r.sends=4 from by rw[h.sends];exact h4),ax s1]
       have e:(m.clock d).qD=r.mV:=by
        show [(50,g_ m.iB),(54,g_ m.iO)]=r.mV
        unfold Rf.mV;rw[h.iB,h.iO]
       rw[e]
       exact(hc.more he.ok.ws.1 s3).say (qL hs4) 3 r.mV v
 ·have e1:(m.clock d).ended=true:=by
   show(m.phase==3||m.phase==4)=true
   rw[hp];rfl
  rw[e1,ay rfl,ay (by rw[h.phase,hp])]
  exact hc
theorem Jv(m:Mc)(F:ByteArray):(m.sent F).cq=m.cq:=by unfold Mc.sent;split<;>rfl
theorem zB(m:Mc)(kb:UInt8)(os:gU):(m.say kb os).cq=m.cq:=Jv _ _
theorem CS(m:Mc):m.fail.cq=m.cq:=by unfold Mc.fail;split<;>rfl
theorem JX(m:Mc):m.nz.cq=m.cq:=by
 unfold Mc.nz Mc.A_ Mc.Lm Mc.off
 split
 ·exact zB _ _ _
 ·split
  ·split
   ·rfl
   ·split
    ·exact CS _
    ·exact zB _ _ _
  ·split
   ·split
    ·rfl
    ·split
     ·exact CS _
     ·exact zB _ _ _
   ·rfl
theorem NJ(m:Mc)(d:Int):(m.nY d).cq=m.cq:=by
 unfold Mc.nY
 split
 ·rfl
 ·exact JX _
theorem QN(m:Mc)(kd sv yo ne:Int)(os:gU):(m.oC kd sv yo ne os).cq=m.cq:=by
 unfold Mc.oC
 split
 ·split
  ·exact zB _ _ _
  ·rfl
 ·split
  ·split
   ·unfold Mc.yQ
    split
    ·exact Jv _ _
    ·rfl
   ·rfl
  ·split
   ·split<;>rfl
   ·rfl
theorem TH(m:Mc)(d:Fr):(m.on d).cq=m.cq:=by
 cases d with
 |no=>rfl
 |D7 a0 a1 a2 a3 a4 a5 f0 f1 f2 f3 f4 f5 fip=>
  unfold Mc.on
  simp only
  split
  ·unfold Mc.zg
   split
   ·rw[CS,zB]
   ·rfl
  ·rfl
 |dh a0 a1 a2 a3 a4 a5 rep gF yo ne d0 d1 d2 d3 d4 d5 os=>
  unfold Mc.on
  simp only
  split
  ·unfold Mc.Mj
   split
   ·cases lJ os with
    |none=>rfl
    |some q=>obtain⟨kd,sv⟩:=q;exact QN m kd sv yo ne os
   ·rfl
  ·rfl
theorem ig.tick(h:ig m r)(d:Int)(hd:0<=d/\d<=4294967295)(v:Value)(b:Nat):ig ((m.nY d).at b) (r.lm d v):=
 ⟨qM (GD h.late d hd) b,(h.e.tick h.late d v).at b,by show ∀s ∈ (m.nY d).cq,_;rw[NJ];exact h.sz⟩
theorem ig.take(h:ig m r)(v:Value):ig m.kw {r with tv:=v,tl:=r.tl.tail}:=by
 obtain⟨he,h,hz⟩:=h
 unfold Mc.kw
 have ht:=h.tl
 cases hq:m.gq with
 |nil=>
  rw[hq]at ht
  refine⟨he,⟨h.k0,h.k1,h.k2,h.k3,h.k4,h.k5,h.rx,h.tx,h.rl,?_,h.lost,h.id,h.now,h.draw,h.gF,h.gK,h.sends,h.again,h.phase,h.gZ,h.iB,h.iO,h.cv,h.iv,h.img,h.t⟩,hz⟩
  show r.tl.tail=m.gq
  rw[ht,hq];rfl
 |cons s q=>
  rw[hq]at ht
  refine⟨⟨⟨he.ok.1,he.ok.2,he.ok.3,he.ok.4,he.ok.5,he.ok.6,he.ok.7,he.ok.8,he.ok.9,he.ok.10,he.ok.11,he.ok.12,he.ok.13,he.ok.14,he.ok.15,he.ok.16⟩,he.st,he.cd,he.phase⟩,⟨h.k0,h.k1,h.k2,h.k3,h.k4,h.k5,h.rx,h.tx,h.rl,?_,h.lost,h.id,h.now,h.draw,h.gF,h.gK,h.sends,h.again,h.phase,h.gZ,h.iB,h.iO,h.cv,h.iv,h.img,h.t⟩,hz⟩
  show r.tl.tail=q
  rw[ht];rfl
theorem ig.put(h:ig m r)(s:ByteArray)(hs:s.size<=65536)(v:Value):ig (m.put s) (if r.rl.length<r.rx then r.Mi s v else r):=by
 obtain⟨he,h,hz⟩:=h
 have e1:r.rl.length=m.cq.length:=by rw[h.rl]
 have e2:=h.rx
 unfold Mc.put
 by_cases hr:m.cq.length<m.rx
 ·rw[ay hr,ay (by omega)]
  exact⟨⟨⟨he.ok.1,he.ok.2,he.ok.3,he.ok.4,he.ok.5,he.ok.6,he.ok.7,he.ok.8,he.ok.9,he.ok.10,he.ok.11,he.ok.12,he.ok.13,he.ok.14,he.ok.15,he.ok.16⟩,he.st,he.cd,he.phase⟩,⟨h.k0,h.k1,h.k2,h.k3,h.k4,h.k5,h.rx,h.tx,by show r.rl++ [s]=m.cq++ [s];rw[h.rl],h.tl,h.lost,h.id,h.now,h.draw,h.gF,h.gK,h.sends,h.again,h.phase,h.gZ,h.iB,h.iO,h.cv,h.iv,h.img,h.t⟩,fun x hx=>by
   rcases dV.1 hx with q|q
   ·exact hz x q
   ·rw[List.mem_singleton.1 q];exact hs⟩
 ·rw[ax hr,ax (by omega)]
  exact⟨he,h,hz⟩
theorem o8(h:m.Late):m.jP.Late:=by
 unfold Mc.jP
 cases m.cq with
 |nil=>exact h
 |cons s q=>exact⟨⟨h.ok.1,h.ok.2,h.ok.3,h.ok.4,h.ok.5,h.ok.6,h.ok.7,h.ok.8,h.ok.9,h.ok.10,h.ok.11,h.ok.12,h.ok.13,h.ok.14,h.ok.15,h.ok.16⟩,h.st,h.cd,h.phase⟩
theorem FN(m:Mc):m.jP.cq=m.cq.tail:=by
 unfold Mc.jP
 cases h:m.cq with
 |nil=>exact h
 |cons s q=>rfl
theorem nu.came(h:nu m r)(v:Value):nu m.jP (r.jA 1 v):=by
 have hr:(r.jA 1 v).rl=m.cq.tail:=by show r.rl.drop 1=_;rw[h.rl,List.drop_one]
 unfold Mc.jP
 cases hq:m.cq with
 |nil=>
  rw[hq]at hr
  exact⟨h.k0,h.k1,h.k2,h.k3,h.k4,h.k5,h.rx,h.tx,by rw[hq];exact hr,h.tl,h.lost,h.id,h.now,h.draw,h.gF,h.gK,h.sends,h.again,h.phase,h.gZ,h.iB,h.iO,h.cv,h.iv,h.img,h.t⟩
 |cons s q=>
  rw[hq]at hr
  exact⟨h.k0,h.k1,h.k2,h.k3,h.k4,h.k5,h.rx,h.tx,hr,h.tl,h.lost,h.id,h.now,h.draw,h.gF,h.gK,h.sends,h.again,h.phase,h.gZ,h.iB,h.iO,h.cv,h.iv,h.img,h.t⟩
end Oj
namespace Oj
open Bs Js Ref
variable{R:Mc→Rf→Prop} {w0 w w':fV} {Wb:Nat} {tv bv:Value} {L:List Pr} {fr:ByteArray→Fr}
theorem ig.EP{m:Mc}{r:Rf}(h:ig m r)(htx:r.tx<=16)(htl:r.tl.length<=r.tx):r.Late:=
 ⟨⟨by rw[h.e.draw];exact h.late.ok.draw,by rw[h.e.gF];exact h.late.ok.gF,htx,htl⟩,by rw[h.e.gK];exact h.late.st,h.e.cv,h.e.iv,by rw[h.e.phase];exact h.late.phase,by rw[h.e.sends];exact h.late.ok.ws,by rw[h.e.iB];exact h.late.ok.iB,by rw[h.e.iO];exact h.late.ok.iO,h.e.t⟩
theorem Ob{p:Pr}(i:Nat)(hi:i<L.length)(hp:L[i]=p):L.set i ⟨p.Q,p.B,p.G,p.m,p.r⟩=L:=by
 have e:(⟨p.Q,p.B,p.G,p.m,p.r⟩:Pr)=p:=rfl
 rw[e,<-hp]
 exact List.set_getElem_self hi
theorem DY(kd:Int)(w:fV):f_ Vh 9 #[Vb Vg kd,Vb Vg 3] w fun e w'=>e=.returned (.bool true)/\w'=w:=by
 go_enter func9,ntmps9
 go_wp2
 go_ret
 exact⟨rfl,rfl⟩
theorem Og{P:Nat->Prop}{B:Nat}{m:Mc}(h:Mx w0 P w B m)(hp:m.phase≠3):f_ Vh 47 #[p_ B] w fun ee w'=>ee=.returned (.tuple #[.string ⟨#[]⟩,.bool false])/\Mx w0 P w' B m:=by
 have c40:=h.c40
 have e:(m.phase !=3)=true:=by simpa using hp
 have HM:=gu h
 clear h hp
 go_enter func47,ntmps47
 go_wp2
 go_ret2
 exact⟨rfl,HM⟩
theorem D5{P:Nat->Prop}{Q B:Nat}{m:Mc}(h:Bx w0 P w Q B m)(hp:m.phase≠3):f_ Vh 27 #[p_ Q] w fun ee w'=>ee=.returned (.tuple #[.string ⟨#[]⟩,.bool false])/\Bx w0 P w' Q B m:=by
 have HM:=gu (kP h)
 have HT:=gu (Og h.mx.base hp)
 have HB:=gu h
 clear h hp
 go_enter func27,ntmps27
 go_wp2_with fail
 refine HM.mono ?_
 rintro ee u ⟨rfl,rfl⟩
 go_wp2_with fail
 refine HT.mono ?_
 rintro ee u ⟨rfl,hu⟩
 have HU:=gu (HB.next hu)
 clear hu HT HM HB
 go_wp2
 go_ret2
 exact⟨rfl,HU⟩
theorem Oc(h:Ws R w0 w Wb tv bv [])(kd:Int)(a n:Int)(k0 k1 k2 k3 k4 k5:UInt8)(name:ByteArray)(cap:Int)(gQ:ByteArray)(blk win rx tx:Int)(s:ByteArray):
  f_ Vh 10 #[p_ Wb,.agg (rI kd a n k0.toNat k1.toNat k2.toNat k3.toNat k4.toNat k5.toNat name cap gQ blk win rx tx s),Vb Vg 3] w fun ee w'=>ee=.returned (.bool false)/\Below w.heap.size w w':=by
 obtain⟨ao,cp,hbv⟩:=jK h.own
 have hltW:=Vj h.row
 have hneW:Wb≠w.heap.size:=aB hltW
 have xW:w.cell? (a_ Wb 1)=some (.slice ao 0 cp):=by rw[HY w Wb 1 _ _ _ h.row,hbv];rfl
 have HB:=gu ((R9 w.heap.size w).alloc (ai _) (.cells (rI kd a n k0.toNat k1.toNat k2.toNat k3.toNat k4.toNat k5.toNat name cap gQ blk win rx tx s) 30))
 clear h hbv
 go_enter func10,ntmps10
 go_wp2
 go_ret
 exact⟨rfl,HB⟩
def JC(p:Pr)(kd:Int):Bool:=p.r.gK==3 && kd==4 && decide (p.r.again<=wrap64 (p.r.now+1))
theorem Ia(h:Ws R w0 w Wb tv bv L)(hL:0<L.length)(kd:Int)(a n:Int)(k0 k1 k2 k3 k4 k5:UInt8)(name:ByteArray)(cap:Int)(gQ:ByteArray)(blk win rx tx:Int)(s:ByteArray)(i:Nat)(hi:i<L.length)(hP:∀w,f_ Vh 14 #[Vb Vg a,Vb Vg L.length] w fun e w'=>e=.returned (Vb Vg i)/\w'=w)(p:Pr)(hp:L[i]=p):
  f_ Vh 10 #[p_ Wb,.agg (rI kd a n k0.toNat k1.toNat k2.toNat k3.toNat k4.toNat k5.toNat name cap gQ blk win rx tx s),Vb Vg 3] w fun ee w'=>ee=.returned (.bool (JC p kd))/\Below w.heap.size w w':=by
 have HP:=gu hP
 obtain⟨g,cp,hbv,hnc,hcm,hcells⟩:=jv h.own hL
 obtain⟨q0,q1⟩:=kH L i hi
 have y1:=hcells _ _ q1
 rw[hp]at y1
 have HPI:=gu hp
 obtain⟨Gi,hGi⟩:∃Gi,Gi=p.G:=⟨_,rfl⟩
 rw[<-hGi]at y1
 have hlo:g<w.heap.size:=aH w _ y1
 have HB:=gu ((R9 w.heap.size w).alloc (ai _) (.cells (rI kd a n k0.toNat k1.toNat k2.toNat k3.toNat k4.toNat k5.toNat name cap gQ blk win rx tx s) 30))
 have HW1:=gu (h.alloc (.cells (rI kd a n k0.toNat k1.toNat k2.toNat k3.toNat k4.toNat k5.toNat name cap gQ blk win rx tx s) 30))
 have HOP:Hid ((w.alloc (.cells (rI kd a n k0.toNat k1.toNat k2.toNat k3.toNat k4.toNat k5.toNat name cap gQ blk win rx tx s) 30)).heap[w.heap.size]?=some (.cells (rI kd a n k0.toNat k1.toNat k2.toNat k3.toNat k4.toNat k5.toNat name cap gQ blk win rx tx s) 30 (0,0))):=gu (G8 w _)
 have HKG:Hid ((w.alloc (.cells (rI kd a n k0.toNat k1.toNat k2.toNat k3.toNat k4.toNat k5.toNat name cap gQ blk win rx tx s) 30)).heap[g]?=w.heap[g]?):=gu (Vi w _ g hlo)
 have HY1:=gu ((Vk (a:=(a_ g (i*2+1))) HKG).trans y1)
 have HBV:=gu hbv
 have hlen0:((L.length:Int)==0)=false:=by rw[aD];omega
 have hiI:(i:Int)<(L.length:Int):=by omega
 have HG:=gu hGi
 have HI:=gu hi
 obtain⟨len,hlen⟩:∃len,len=L.length:=⟨_,rfl⟩
 have HLEN:=gu hlen
 obtain⟨v,hv⟩:∃v,v=w.alloc (.cells (rI kd a n k0.toNat k1.toNat k2.toNat k3.toNat k4.toNat k5.toNat name cap gQ blk win rx tx s) 30):=⟨_,rfl⟩
 rw[<-hv]at HW1 HOP HY1 HB
 have HV:=gu hv
 have hltW:=Vj h.row
 have hneW:Wb≠w.heap.size:=aB hltW
 have xW:w.cell? (a_ Wb 1)=some (.slice (some (a_ g 0)) len cp):=by rw[HY w Wb 1 _ _ _ h.row,hbv,hlen];rfl
 clear h hP hp hcells q0 q1 y1 hGi hbv hnc hcm HKG hlo hv
 rw[<-hlen]at hlen0 hiI HP
 clear hlen hL
 go_enter func10,ntmps10
 go_wp2
 rw[<-gB HV]
 clear xW hneW hltW
 have x1:v.cell? (a_ Wb 1)=some (.slice (some (a_ g 0)) len cp):=by rw[HY v Wb 1 _ _ _ HW1.row,gB HBV,<-gB HLEN];rfl
 have z0:v.cell? (a_ w.heap.size 0)=some (Vb Vg kd):=HY v _ 0 _ _ _ HOP
 have z1:v.cell? (a_ w.heap.size 1)=some (Vb Vg a):=HY v _ 1 _ _ _ HOP
 have y1:=gB HY1
 have HOK:Hid (vw R v p):=gu (by rw[<-gB HPI];exact HW1.ok i HI)
 go_cut [7] (fun s7 wc=>s7=(p_ Gi)/\Hid (Lk v wc))
 case first=>
  go_region_held3 (fun u=>u.cell? (a_ Wb 1)=some (.slice (some (a_ g 0)) len cp)/\u.cell? (a_ w.heap.size 1)=some (Vb Vg a)/\u.cell? (a_ g (i*2+1))=some (p_ Gi)) (go_keep)
   (first|(go_at_call 14;refine(HP _).mono ?_;rintro ee u1 ⟨rfl,rfl⟩))
  all_goals go_wp2
  all_goals go_meet
  all_goals exact⟨rfl,gu ⟨rfl,rfl,rfl,rfl⟩⟩
 case rest=>
  obtain⟨rfl,HLK⟩:=hcut
  rename fV=>x
  have hrm:Rm v (iT p.G p.r) x p.G p.r:=HOK.rm.like HLK
  rw[<-gB HG]at hrm
  have kF:=hrm.kF
  have c16:=hrm.c16
  have c32:=hrm.c32
  have z0:x.cell? (a_ w.heap.size 0)=some (Vb Vg kd):=by rw[Vk (w:=v) (a:=(a_ w.heap.size 0)) (by rw[HLK.heap])];exact z0
  have HBx:Hid (∀n,Below w.heap.size w (x.drewN n)):=gu (fun n=>by
   have q:=gB HB
   have k:=gB HLK
   exact⟨k.os.trans q.os,k.tape.trans q.tape,k.output.trans q.output,by show w.heap.size<=x.heap.size;rw[k.heap];exact q.size,fun j hj=>by show x.heap[j]?=_;rw[k.heap];exact q.block j hj⟩)
  have HEB:Hid (JC p kd=(p.r.gK==3 && kd==4 && decide (p.r.again<=wrap64 (p.r.now+1)))):=gu rfl
  clear hrm x1 z1 y1 HW1 HOP HY1 HOK HLK HB
  obtain⟨N,hN⟩:∃N,N=wrap64 (p.r.now+1):=⟨_,rfl⟩
  have hw:IntKind.i64.wrap (p.r.now+1)=N:=by rw[hN,l_]
  rw[<-hN]at HEB
  clear hN
  cases h3:(p.r.gK==3)with
  |false=>
   rw[h3]at HEB
   go_wp2
   go_quiet (fail)
   go_wp2
   go_ret
   rw[gB HEB]
   exact⟨rfl,HBx _⟩
  |true=>
   rw[h3]at HEB
   cases h4:(kd==4)with
   |false=>
    rw[h4]at HEB
    go_wp2
    go_quiet (fail)
    go_wp2
    go_ret
    rw[gB HEB]
    exact⟨rfl,HBx _⟩
   |true=>
    rw[h4]at HEB
    go_wp2
    go_quiet (fail)
    go_wp2
    go_ret
    rw[gB HEB]
    exact⟨by simp,HBx _⟩
theorem front(h:Ws ig w0 w Wb tv bv L)(hL:0<L.length)(i:Nat)(hi:i<L.length)(a:Int)(hP:∀w,f_ Vh 14 #[Vb Vg a,Vb Vg L.length] w fun e w'=>e=.returned (Vb Vg i)/\w'=w)(row:Array Value):∃(p:Pr) (Qi Gi g cp len:Nat) (v:fV),Hid (∀w,f_ Vh 14 #[Vb Vg a,Vb Vg len] w fun e w'=>e=.returned (Vb Vg i)/\w'=w)/\L[i]=p/\Hid (Ws ig w0 v Wb tv bv L)/\Hid (v.heap[w.heap.size]?=some (.cells row 30 (0,0)))/\Hid (v.cell? (a_ g (i*2))=some (p_ Qi))/\Hid (v.cell? (a_ g (i*2+1))=some (p_ Gi))/\Hid (bv=.slice (some (a_ g 0)) L.length cp)/\((len:Int)==0)=false/\(i:Int)<(len:Int)/\Hid (Qi=p.Q)/\Hid (Gi=p.G)/\Hid (len=L.length)/\Hid (v=w.alloc (.cells row 30))/\Hid (vw ig w p)/\Wb<w.heap.size/\w.cell? (a_ Wb 1)=some (.slice (some (a_ g 0)) len cp):=by
 obtain⟨g,cp,hbv,hnc,hcm,hcells⟩:=jv h.own hL
 obtain⟨q0,q1⟩:=kH L i hi
 have y0:=hcells _ _ q0
 have y1:=hcells _ _ q1
 have hlo:g<w.heap.size:=aH w _ y0
 have hk:=Vi w (.cells row 30) g hlo
 exact⟨L[i],L[i].Q,L[i].G,g,cp,L.length,w.alloc (.cells row 30),hP,rfl,h.alloc _,G8 w _,(Vk (a:=(a_ g (i*2))) hk).trans y0,(Vk (a:=(a_ g (i*2+1))) hk).trans y1,hbv,by rw[aD];omega,by omega,rfl,rfl,rfl,rfl,h.ok i hi,Vj h.row,by rw[HY w Wb 1 _ _ _ h.row,hbv];rfl⟩
theorem back{x v:fV}{i Qi Gi:Nat}{p:Pr}{row:Array Value}(HW1:Ws ig w0 v Wb tv bv L)(HLK:Lk (v.alloc (.cells #[p_ Qi,p_ Gi] 48)) x)(HV:v=w.alloc (.cells row 30))(HOP:v.heap[w.heap.size]?=some (.cells row 30 (0,0)))(HWw:vw ig w p)(hi:i<L.length)(hp:L[i]=p):Hid (Ws ig w0 x Wb tv bv L)/\v.heap.size=w.heap.size+1/\Hid (x.heap[v.heap.size]?=some (.cells #[p_ Qi,p_ Gi] 48 (0,0)))/\Hid (x.heap[w.heap.size]?=some (.cells row 30 (0,0)))/\Hid (∀k,kv p k->k<w.heap.size)/\v.heap.size<x.heap.size/\x.cell? (a_ v.heap.size 0)=some (p_ Qi)/\x.cell? (a_ v.heap.size 1)=some (p_ Gi)/\Hid (vw ig x p)/\Hid (∀(u:fV) (m':Mc),Bx x (iq p.B p.m) u p.Q p.B m'->∀k,w.heap.size<=k->k<x.heap.size->u.heap[k]?=x.heap[k]?):=by
 have hsz:v.heap.size=w.heap.size+1:=by rw[HV];simp
 have HWx:=(HW1.alloc (.cells #[p_ Qi,p_ Gi] 48)).like HLK
 have HPx:x.heap[v.heap.size]?=some (.cells #[p_ Qi,p_ Gi] 48 (0,0)):=by rw[HLK.heap];exact G8 v _
 have HOx:x.heap[w.heap.size]?=v.heap[w.heap.size]?:=by rw[HLK.heap];exact Vi v _ _ (by omega)
 have HF1:∀k,kv p k->k<w.heap.size:=fun k hk=>HWw.lt hk
 exact⟨HWx,hsz,HPx,HOx.trans HOP,HF1,gG HPx,HY x _ 0 _ _ _ HPx,HY x _ 1 _ _ _ HPx,hp▸HWx.ok i hi,gu (fun u m' hu k h1 h2=>hu.mx.kept k h2 (fun hf=>by have:=HF1 k (aA (au hf));omega))⟩
theorem Im(h:Ws ig w0 w Wb tv bv L)(hL:0<L.length)(hL2:L.length<=65536)(a n:Int)(k0 k1 k2 k3 k4 k5:UInt8)(name:ByteArray)(cap:Int)(gQ:ByteArray)(blk win rx tx:Int)(s:ByteArray)(ha: -9223372036854775808<=a/\a<=9223372036854775807):
  f_ Vh 11 #[p_ Wb,.agg (rI 3 a n k0.toNat k1.toNat k2.toNat k3.toNat k4.toNat k5.toNat name cap gQ blk win rx tx s)] w fun ee w'=>ee=.returned (.bool true)/\∃L',L'.length=L.length/\Ws ig w0 w' Wb tv bv L':=by
 obtain⟨i,hi,hP⟩:=lY a L.length hL hL2 ha w
 obtain⟨p,Qi,Gi,g,cp,len,v,HP,hp,HW1,HOP,HY0,HY1,HBV,hlen0,hiI,HQ,HG,HLEN,HV,HWw,hltW,xW⟩:=front h hL i hi a hP (rI 3 a n k0.toNat k1.toNat k2.toNat k3.toNat k4.toNat k5.toNat name cap gQ blk win rx tx s)
 have HPI:=gu hp
 have HI:=gu hi
 have hneW:Wb≠w.heap.size:=aB hltW
 clear h hP hp ha hL hL2
 go_enter func11,ntmps11
 go_wp2
 rw[<-gB HV]
 clear xW hneW hltW
 have x1:v.cell? (a_ Wb 1)=some (.slice (some (a_ g 0)) len cp):=by rw[HY v Wb 1 _ _ _ HW1.row,gB HBV,<-gB HLEN];rfl
 have z0:v.cell? (a_ w.heap.size 0)=some (Vb Vg 3):=HY v _ 0 _ _ _ HOP
 have z1:v.cell? (a_ w.heap.size 1)=some (Vb Vg a):=HY v _ 1 _ _ _ HOP
 have z2:v.cell? (a_ w.heap.size 2)=some (Vb Vg n):=HY v _ 2 _ _ _ HOP
 have z16:v.cell? (a_ w.heap.size 16)=some (.string s):=HY v _ 16 _ _ _ HOP
 have y0:=gB HY0
 have y1:=gB HY1
 go_cut [9] (fun s9 wc=>s9=(p_ v.heap.size)/\Hid (Lk (v.alloc (.cells #[p_ Qi,p_ Gi] 48)) wc))
 case first=>
  go_region_held3 (fun u=>u.cell? (a_ Wb 1)=some (.slice (some (a_ g 0)) len cp)/\u.cell? (a_ w.heap.size 1)=some (Vb Vg a)/\u.cell? (a_ g (i*2))=some (p_ Qi)/\u.cell? (a_ g (i*2+1))=some (p_ Gi)) (go_keep)
   (first|(go_at_call 14;refine(HP _).mono ?_;rintro ee u1 ⟨rfl,rfl⟩))
  all_goals go_wp2
  all_goals go_meet
  all_goals exact⟨rfl,gu ⟨rfl,rfl,rfl,rfl⟩⟩
 case rest=>
  obtain⟨rfl,HLK⟩:=hcut
  rename fV=>x
  obtain⟨HWx,hsz,HPx,HOy,HF1,hzx,p0,p1,HB,HKP⟩:=back HW1 HLK HV HOP HWw HI HPI
  clear x1 z0 z1 z2 z16 y0 y1 HLK HW1
  have z0:x.cell? (a_ w.heap.size 0)=some (Vb Vg 3):=HY x _ 0 _ _ _ HOy
  have z2:x.cell? (a_ w.heap.size 2)=some (Vb Vg n):=HY x _ 2 _ _ _ HOy
  have z16:x.cell? (a_ w.heap.size 16)=some (.string s):=HY x _ 16 _ _ _ HOy
  have hq:Qi=p.Q:=gB HQ
  have hg:Gi=p.G:=gB HG
  have HRel:=gu HB.rel
  have hgo:=HB.bx.mx.goes
  have htx:p.r.tx<=16:=by rw[HRel.e.tx];exact hgo.2.1
  have htl:p.r.tl.length<=p.r.tx:=by rw[HRel.e.tl,HRel.e.tx];exact hgo.2.2.2.1
  have HTX:=gu htx
  have HTL:=gu htl
  have HLR:=gu (HRel.EP htx htl)
  clear hgo htx htl
  obtain⟨S,hS⟩:∃S,S=kW p.m.gq:=⟨_,rfl⟩
  obtain⟨bb,hbb⟩:∃bb,bb= !p.m.gq.isEmpty:=⟨_,rfl⟩
  have HSS:=gu hS
  have HBB:=gu hbb
  have HCC:Hid (f_ Vh 19 #[p_ Qi] x fun ee u=>ee=.returned (.tuple #[.string S,.bool bb])/\Hid (Bx x (iq p.B p.m) u p.Q p.B p.m.kw)/\(u.cell? (a_ v.heap.size 1)=some (p_ Gi))):=gu (by
   rw[hq]
   refine(vU HB.bx).mono ?_
   rintro ee u ⟨rfl,hu⟩
   rw[<-gB HSS,<-gB HBB]
   exact⟨rfl,gu hu,(Vk (a:=(a_ v.heap.size 1)) (HKP u _ hu v.heap.size (by omega) hzx)).trans p1⟩)
  have HCR:Hid (∀u,Hid (Bx x (iq p.B p.m) u p.Q p.B p.m.kw)->f_ Vh 20 #[p_ Gi] u fun ee u2=>ee=.returned (.tuple #[.string S,.bool bb])/\Hid (∃L',L'.length=L.length/\Ws ig w0 u2 Wb tv bv L')):=gu (fun u hu=>by
   rw[hg]
   have hrm:=HWx.mO i HI HPI hu
   refine(Ref.Az hrm (aG HTL HTX)).mono ?_
   rintro ee u2 ⟨rfl,vv,hr⟩
   refine⟨?_,gu ⟨_,by simp,HWx.both' i HI HPI hu hr (HRel.take vv)⟩⟩
   rw[gB HSS,gB HBB,HRel.e.tl])
  clear hq hg hsz hS hbb
  go_wp2_with fail
  refine HCC.mono ?_
  rintro ee u1 ⟨rfl,HU1,e1⟩
  go_wp2_with fail
  refine(HCR _ HU1).mono ?_
  rintro ee u2 ⟨rfl,HU2⟩
  go_wp2
  go_ret
  exact⟨by simp,HU2⟩
theorem Eb(h:Ws ig w0 w Wb tv bv L)(hL:0<L.length)(hL2:L.length<=65536)(kd:Int)(n1:kd≠1)(n2:kd≠2)(n3:kd≠3)(n4:kd≠4)(n5:kd≠5)(n6:kd≠6)(n7:kd≠7)(a n:Int)(k0 k1 k2 k3 k4 k5:UInt8)(name:ByteArray)(cap:Int)(gQ:ByteArray)(blk win rx tx:Int)(s:ByteArray)(ha: -9223372036854775808<=a/\a<=9223372036854775807):
  f_ Vh 11 #[p_ Wb,.agg (rI kd a n k0.toNat k1.toNat k2.toNat k3.toNat k4.toNat k5.toNat name cap gQ blk win rx tx s)] w fun ee w'=>ee=.returned (.bool true)/\∃L',L'.length=L.length/\Ws ig w0 w' Wb tv bv L':=by
 have f1:(kd==1)=false:=by rw[aD];exact n1
 have f2:(kd==2)=false:=by rw[aD];exact n2
 have f3:(kd==3)=false:=by rw[aD];exact n3
 have f4:(kd==4)=false:=by rw[aD];exact n4
 have f5:(kd==5)=false:=by rw[aD];exact n5
 have f6:(kd==6)=false:=by rw[aD];exact n6
 have f7:(kd==7)=false:=by rw[aD];exact n7
 clear n1 n2 n3 n4 n5 n6 n7
 obtain⟨i,hi,hP⟩:=lY a L.length hL hL2 ha w
 obtain⟨p,Qi,Gi,g,cp,len,v,HP,hp,HW1,HOP,HY0,HY1,HBV,hlen0,hiI,HQ,HG,HLEN,HV,HWw,hltW,xW⟩:=front h hL i hi a hP (rI kd a n k0.toNat k1.toNat k2.toNat k3.toNat k4.toNat k5.toNat name cap gQ blk win rx tx s)
 have HPI:=gu hp
 have HI:=gu hi
 have hneW:Wb≠w.heap.size:=aB hltW
 clear h hP hp ha hL hL2
 go_enter func11,ntmps11
 go_wp2
 rw[<-gB HV]
 clear xW hneW hltW
 have x1:v.cell? (a_ Wb 1)=some (.slice (some (a_ g 0)) len cp):=by rw[HY v Wb 1 _ _ _ HW1.row,gB HBV,<-gB HLEN];rfl
 have z0:v.cell? (a_ w.heap.size 0)=some (Vb Vg kd):=HY v _ 0 _ _ _ HOP
 have z1:v.cell? (a_ w.heap.size 1)=some (Vb Vg a):=HY v _ 1 _ _ _ HOP
 have z2:v.cell? (a_ w.heap.size 2)=some (Vb Vg n):=HY v _ 2 _ _ _ HOP
 have z16:v.cell? (a_ w.heap.size 16)=some (.string s):=HY v _ 16 _ _ _ HOP
 have y0:=gB HY0
 have y1:=gB HY1
 go_cut [9] (fun s9 wc=>s9=(p_ v.heap.size)/\Hid (Lk (v.alloc (.cells #[p_ Qi,p_ Gi] 48)) wc))
 case first=>
  go_region_held3 (fun u=>u.cell? (a_ Wb 1)=some (.slice (some (a_ g 0)) len cp)/\u.cell? (a_ w.heap.size 1)=some (Vb Vg a)/\u.cell? (a_ g (i*2))=some (p_ Qi)/\u.cell? (a_ g (i*2+1))=some (p_ Gi)) (go_keep)
   (first|(go_at_call 14;refine(HP _).mono ?_;rintro ee u1 ⟨rfl,rfl⟩))
  all_goals go_wp2
  all_goals go_meet
  all_goals exact⟨rfl,gu ⟨rfl,rfl,rfl,rfl⟩⟩
 case rest=>
  obtain⟨rfl,HLK⟩:=hcut
  rename fV=>x
  obtain⟨HWx,hsz,HPx,HOy,HF1,hzx,p0,p1,HB,HKP⟩:=back HW1 HLK HV HOP HWw HI HPI
  clear x1 z0 z1 z2 z16 y0 y1 HLK HW1
  have z0:x.cell? (a_ w.heap.size 0)=some (Vb Vg kd):=HY x _ 0 _ _ _ HOy
  have z2:x.cell? (a_ w.heap.size 2)=some (Vb Vg n):=HY x _ 2 _ _ _ HOy
  have z16:x.cell? (a_ w.heap.size 16)=some (.string s):=HY x _ 16 _ _ _ HOy
  go_wp2
  go_ret
  exact⟨rfl,L,rfl,HWx⟩
end Oj
end Go.Proofs.YtbhbbeebncmaiaaGreatDoor
