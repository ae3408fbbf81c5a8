import Derived.Test.YtdgacidndknceaaGreatDoorMg11
set_option linter.all false
set_option maxHeartbeats 4000000
set_option maxRecDepth 10000
open Go.ChangeShapes Go.WideShapes Go.ChangeAt Go.RowKit
open Go renaming World → fV
open Go.Proofs.Tryz
namespace Go.Proofs.YtdgacidndknceaaGreatDoor
namespace Ho
open Bs Js
variable{w0 w w':fV} {P:Nat→Prop} {Q B H G:Nat} {m m':Mc} {h h':Host} {K:Nat→Nat} {s:List UInt8} {wn:Nat} {img:ByteArray}
def XM(n:Nat):ByteArray:=⟨(Tf.U7 ⟨4,n%65536,[],[],[]⟩).toArray⟩
theorem aC9(n:Nat):Tf.UU ⟨4,n%65536,[],[],[]⟩=0/\(XM n).size<=1472:=by
 have e:Tf.UU ⟨4,n%65536,[],[],[]⟩=0:=by simp[Tf.UU,Tf.RS,Tf.Mq,Tf.TU]
 refine⟨e,?_⟩;unfold XM;rw[strSize];unfold Tf.U7;rw[bp0 e];simp[Tf.Mq,Tf.TU]
theorem Yr{op bl:Int}{ts ds:ByteArray}{n:Nat}{xs:List Value}{f:Int}{Z Z':Mc->Prop}{R:fV->(Nat->Prop)->Prop}(L:Looks R op bl ts ds n xs f B m Z)(hz:∀x,Z x->Z' x):Looks R op bl ts ds n xs f B m Z':=
 fun w0 P u sa sc g b h1 h2 h3 h4 h5 h6=>(L w0 P u sa sc g b h1 h2 h3 h4 h5 h6).mono fun ee w'=>by
  rintro ⟨e,mz,q,hm⟩;exact⟨e,mz,hz mz q,hm⟩
end Ho
namespace Ho
open Bs Js
theorem dg1(n:Nat)(h:n<10):dg n=[UInt8.ofNat (48+n)]:=by rw[dg,bp0 h]
theorem dg2(n:Nat)(h: ¬n<10):dg n=dg (n/10)++ [UInt8.ofNat (48+n%10)]:=by rw[dg,bo4 h]
theorem an6(L:List UInt8)(k:Nat)(x:Int)(hx:0<=x/\x<256):(gY L).set k (.int .u8 x)=gY (L.set k (UInt8.ofNat x.toNat)):=by
 unfold gY;rw[List.map_set];congr 2
 have:((UInt8.ofNat x.toNat).toNat:Int)=x:=by simp;omega
 exact this.symm
end Ho
namespace Ho
open Bs Js
variable{w0:fV} {P:Nat→Prop} {w w':fV} {B Q:Nat} {m m':Mc}
theorem am8(h:Mx w0 P w B m)(hp:m.phase=3):Calls prog 35 #[p_ B] w fun ee w'=>ee=.returned (.tuple #[.string ⟨m.ql.toArray⟩,.bool true])/\w'=w:=by
 have c40:=h.c40;rw[hp]at c40;have RX:=h.RX;have hcv:=oL w 0 m.img m.ql h.image;obtain⟨iv,hiv⟩:=ex_ m.img;rw[<-hiv]at RX hcv;clear h hiv hp;go_enter func35,ntmps35;go_wp2;go_ret2;exact⟨rfl,rfl⟩
theorem Zt(h:Bx w0 P w Q B m)(hp:m.phase=3):Calls prog 21 #[p_ Q] w fun ee w'=>ee=.returned (.tuple #[.string ⟨m.ql.toArray⟩,.bool true])/\w'=w:=by
 have HM:=Fe (kP h);have HT:=Fe (am8 h.mx hp);clear h hp;generalize(⟨m.ql.toArray⟩:ByteArray)=s at*;go_enter func21,ntmps21;go_wp2_with fail;refine HM.mono ?_;rintro ee u ⟨rfl,rfl⟩;go_wp2_with fail;refine HT.mono ?_;rintro ee u ⟨rfl,rfl⟩;go_wp2;go_ret2;exact⟨rfl,rfl⟩
theorem aD8(h:Bx w0 P w Q B m)(hp:m.phase=3)(s:ByteArray)(hs:s=⟨m.ql.toArray⟩):Calls prog 12 #[p_ Q,.string s] w fun ee w'=>ee=.returned (.bool true)/\Below w.heap.size w w':=by
 have HI:=Fe (Zt h hp);rw[<-hs]at HI;have HL:=Fe (DC h);rw[hp]at HL;have hfl:=fun u=>ao5 m.now m.st 3 m.addr m.boots m.ql.length m.lost m.cached u;clear h hp hs;go_enter func12,ntmps12;go_wp2_with fail;refine HI.mono ?_;rintro ee u ⟨rfl,rfl⟩;go_wp2_with fail;refine on_ HL fun u2 hb=>?_;have HB:=Fe hb;clear hb;go_wp2;go_ret;exact⟨rfl,HB⟩
end Ho
namespace Ho
open Bs Js
variable{w0 w w':fV} {P:Nat→Prop} {Q B H G:Nat} {m m':Mc} {h h':Host} {K:Nat→Nat} {s:List UInt8} {wn:Nat} {img:ByteArray}
theorem ah9(c:NA w):Kd w:=⟨c.1,c.2.1,c.2.2.1,c.2.2.2.1,c.2.2.2.2.1,c.2.2.2.2.2.1⟩
theorem z0(n:Int)(h:0<=n):0<=(0:Int)/\(0:Int)<=n:=⟨ah _,h⟩
end Ho
end Go.Proofs.YtdgacidndknceaaGreatDoor
