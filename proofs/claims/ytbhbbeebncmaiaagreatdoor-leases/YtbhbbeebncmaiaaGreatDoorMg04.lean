import Derived.Test.YtbhbbeebncmaiaaGreatDoorMg29
set_option linter.all false
set_option maxHeartbeats 2000000
set_option maxRecDepth 10000
open Go.ChangeShapes Go.WideShapes Go.ChangeAt Go.RowKit
open Go renaming World → fV, Calls → f_
open Go.RowKit renaming Below → gm
open Go.Proofs.Tryz renaming prog → Vh
open Go.Value renaming int → Vb
open Go.IntKind renaming u8 → Vd, u16 → Ve, u32 → Vf, i64 → Vg
open Go.Proofs.Tryz
namespace Go.Proofs.YtbhbbeebncmaiaaGreatDoor
namespace Ref
open Bs Js
open Tf (iM D9 C_ DL AR)
theorem zP(n a b:Int)(w:fV):f_ Vh 31 (rH n a b) w fun e w'=>e=.returned (.bool (decide (a<=n) && decide (n<=b)))/\w'=w:=by
 by_cases h1:a<=n
 ·have e:(decide (a<=n) && decide (n<=b))=decide (n<=b):=by simp[h1]
  rw[e]
  clear e
  go_enter func31,ntmps31
  go_wp2
  go_ret
  exact⟨rfl,rfl⟩
 ·have e:(decide (a<=n) && decide (n<=b))=false:=by simp[h1]
  rw[e]
  clear e
  go_enter func31,ntmps31
  go_wp2
  go_ret
  exact⟨rfl,rfl⟩
theorem gX(n a b:Int)(w:fV)(h:a<=n/\n<=b):f_ Vh 31 (rH n a b) w fun e w'=>e=.returned (.bool true)/\w'=w:=by
 have q:=zP n a b w
 have e:(decide (a<=n) && decide (n<=b))=true:=by simp[h.1,h.2]
 rw[e]at q
 exact q
theorem oq(n a b:Int)(w:fV)(h: ¬(a<=n/\n<=b)):f_ Vh 31 (rH n a b) w fun e w'=>e=.returned (.bool false)/\w'=w:=by
 have q:=zP n a b w
 have e:(decide (a<=n) && decide (n<=b))=false:=by
  rw[<-Bool.not_eq_true,dw,cZ,cZ];exact h
 rw[e]at q
 exact q
theorem Pq(s:ByteArray)(l:List UInt8)(w:fV)(hsl:s.data.toList=l)(hl:l.length<=9223372036854775806):
  f_ Vh 32 #[.string s] w fun e w'=>e=.returned (.bool (iM l))/\w=w':=by
 have hz:s.size=l.length:=by rw[<-hsl,aF];rfl
 have HIX:=gu (fun k hk u=>C_ s l hsl k hk u)
 clear hsl
 go_enter func32,ntmps32
 go_wp2
 go_loop [3] (fun i=>∃k:Nat,k<=l.length/\i=Vb Vg k/\Hid ((l.take k).all D9=true)) (fun i=>l.length-(intOf i).toNat)
 case atStart=>exact⟨0,aN _,rfl,gu rfl⟩
 case round=>
  obtain⟨k,hk,rfl,HA⟩:=hrel
  by_cases hlt:k<l.length
  ·have x0:=HIX k hlt
   have hlt':(k:Int)<(l.length:Int):=by omega
   have l0:=(l.getD k 0).toNat_lt
   have hcd:D9 (l.getD k 0)=decide (33<=(l.getD k 0).toNat/\(l.getD k 0).toNat<=126):=rfl
   have HBAD:=gu (fun h=>DL (l:=l) hlt h)
   have HOK:=gu (fun h=>AR (l:=l) hlt HA h)
   obtain⟨c,hc⟩:∃c,c=l.getD k 0:=⟨_,rfl⟩
   rw[<-hc]at x0 l0 hcd HBAD HOK
   obtain⟨y,hy⟩:∃y:Nat,y=c.toNat:=⟨_,rfl⟩
   rw[<-hy]at x0 l0 hcd
   have HC:=gu hcd
   clear hc hcd
   by_cases h33:y<33
   ·have g0:(y:Int)<33:=by omega
    have HN:Hid (iM l=false):=gu (HBAD (by rw[gB HC,dB];omega))
    clear HBAD HOK hy
    go_wp2
    go_ret
    exact⟨by rw[gB HN];rfl,rfl⟩
   ·have g0: ¬(y:Int)<33:=by omega
    by_cases h126:126<y
    ·have g1:(126:Int)<(y:Int):=by omega
     have HN:Hid (iM l=false):=gu (HBAD (by rw[gB HC,dB];omega))
     clear HBAD HOK hy
     go_wp2
     go_ret
     exact⟨by rw[gB HN];rfl,rfl⟩
    ·have g1: ¬(126:Int)<(y:Int):=by omega
     have HN:Hid ((l.take (k+1)).all D9=true):=gu (HOK (by rw[gB HC,cZ];omega))
     clear HBAD HOK hy
     go_wp2
     go_round
     case rel=>exact⟨k+1,by omega,by go_num,HN⟩
     case measure=>simp[intOf];omega
  ·have hlt': ¬(k:Int)<(l.length:Int):=by omega
   have HN:Hid (iM l=decide (0<l.length)):=gu (by
    have q:=gB HA
    rw[bG (by omega)]at q
    unfold iM;rw[q,Bool.and_true]
    cases l with
    |nil=>rfl
    |cons a r=>simp)
   go_wp2
   go_ret
   exact⟨by rw[gB HN];rfl,rfl⟩
theorem lX(s:ByteArray)(b:Bool)(w:fV)(hb:Tf.iM s.data.toList=b)(hl:s.size<=9223372036854775806):f_ Vh 32 #[.string s] w fun e w'=>e=.returned (.bool b)/\w'=w:=by
 have q:=Pq s _ w rfl (by rw[aF];exact hl)
 rw[hb]at q
 refine q.mono ?_
 rintro e u ⟨h1,h2⟩
 exact⟨h1,h2.symm⟩
def Rq(tv:Value)(k0 k1 k2 k3 k4 k5:UInt8)(name:ByteArray)(cap:Int)(gQ:ByteArray)(blk win:Int)(rx tx:Nat):Rf:=⟨tv,k0,k1,k2,k3,k4,k5,name,cap,gQ,blk,win,rx,tx,.slice none 0 0,.slice none 0 0,0,0,0,0,0,.slice none 0 0,0,0,0,0,0,0,0,0,0,0,0,0,0,0,0,0,0,0,0,0,0,0,⟨#[]⟩,.slice none 0 0,[],[]⟩
theorem Tw(tb:Nat)(k0 k1 k2 k3 k4 k5:UInt8)(name:ByteArray)(cap:Int)(gQ:ByteArray)(blk win rx tx:Int)(g0: ¬(1<=(name.size:Int)/\(name.size:Int)<=20))(w:fV):f_ Vh 16 #[p_ tb,.agg (rM k0.toNat k1.toNat k2.toNat k3.toNat k4.toNat k5.toNat name cap gQ blk win rx tx)] w fun e w'=>e=.returned (.tuple #[.pointer none,.bool false])/\gm w.heap.size w w':=by
 have H0:=fun u=>gu (oq (name.size:Int) 1 20 u g0)
 clear g0
 go_enter func16,ntmps16
 go_wp2_with fail
 refine(gB (H0 _)).mono ?_
 rintro ee u ⟨rfl,rfl⟩
 go_wp2
 go_ret2
 exact⟨rfl,(R9 w.heap.size w).alloc (ai _) _⟩
theorem Sy(tb:Nat)(k0 k1 k2 k3 k4 k5:UInt8)(name:ByteArray)(cap:Int)(gQ:ByteArray)(blk win rx tx:Int)(g0:1<=(name.size:Int)/\(name.size:Int)<=20)(g1:Tf.iM name.data.toList=false)(w:fV):f_ Vh 16 #[p_ tb,.agg (rM k0.toNat k1.toNat k2.toNat k3.toNat k4.toNat k5.toNat name cap gQ blk win rx tx)] w fun e w'=>e=.returned (.tuple #[.pointer none,.bool false])/\gm w.heap.size w w':=by
 have H0:=fun u=>gu (gX (name.size:Int) 1 20 u g0)
 have H1:=fun u=>gu (lX name false u g1 (by have:=g0.2;omega))
 clear g0 g1
 go_enter func16,ntmps16
 go_wp2_with fail
 refine(gB (H0 _)).mono ?_
 rintro ee u ⟨rfl,rfl⟩
 go_wp2_with fail
 refine(gB (H1 _)).mono ?_
 rintro ee u ⟨rfl,rfl⟩
 go_wp2
 go_ret2
 exact⟨rfl,(R9 w.heap.size w).alloc (ai _) _⟩
theorem SB(tb:Nat)(k0 k1 k2 k3 k4 k5:UInt8)(name:ByteArray)(cap:Int)(gQ:ByteArray)(blk win rx tx:Int)(g0:1<=(name.size:Int)/\(name.size:Int)<=20)(g1:Tf.iM name.data.toList=true)(g2: ¬gQ.size=32)(w:fV):f_ Vh 16 #[p_ tb,.agg (rM k0.toNat k1.toNat k2.toNat k3.toNat k4.toNat k5.toNat name cap gQ blk win rx tx)] w fun e w'=>e=.returned (.tuple #[.pointer none,.bool false])/\gm w.heap.size w w':=by
 have H0:=fun u=>gu (gX (name.size:Int) 1 20 u g0)
 have H1:=fun u=>gu (lX name true u g1 (by have:=g0.2;omega))
 have hd:((gQ.size:Int)==32)=false:=by(rw[aD];intro e;exact g2 (by omega))
 clear g0 g1 g2
 go_enter func16,ntmps16
 go_wp2_with fail
 refine(gB (H0 _)).mono ?_
 rintro ee u ⟨rfl,rfl⟩
 go_wp2_with fail
 refine(gB (H1 _)).mono ?_
 rintro ee u ⟨rfl,rfl⟩
 go_wp2
 go_ret2
 exact⟨rfl,(R9 w.heap.size w).alloc (ai _) _⟩
theorem SN(tb:Nat)(k0 k1 k2 k3 k4 k5:UInt8)(name:ByteArray)(cap:Int)(gQ:ByteArray)(blk win rx tx:Int)(g0:1<=(name.size:Int)/\(name.size:Int)<=20)(g1:Tf.iM name.data.toList=true)(g2:gQ.size=32)(g3: ¬(1<=cap/\cap<=600000))(w:fV):f_ Vh 16 #[p_ tb,.agg (rM k0.toNat k1.toNat k2.toNat k3.toNat k4.toNat k5.toNat name cap gQ blk win rx tx)] w fun e w'=>e=.returned (.tuple #[.pointer none,.bool false])/\gm w.heap.size w w':=by
 have H0:=fun u=>gu (gX (name.size:Int) 1 20 u g0)
 have H1:=fun u=>gu (lX name true u g1 (by have:=g0.2;omega))
 have hd:((gQ.size:Int)==32)=true:=by simp[g2]
 have H3:=fun u=>gu (oq cap 1 600000 u g3)
 clear g0 g1 g2 g3
 go_enter func16,ntmps16
 go_wp2_with fail
 refine(gB (H0 _)).mono ?_
 rintro ee u ⟨rfl,rfl⟩
 go_wp2_with fail
 refine(gB (H1 _)).mono ?_
 rintro ee u ⟨rfl,rfl⟩
 go_wp2_with fail
 refine(gB (H3 _)).mono ?_
 rintro ee u ⟨rfl,rfl⟩
 go_wp2
 go_ret2
 exact⟨rfl,(R9 w.heap.size w).alloc (ai _) _⟩
theorem Sr(tb:Nat)(k0 k1 k2 k3 k4 k5:UInt8)(name:ByteArray)(cap:Int)(gQ:ByteArray)(blk win rx tx:Int)(g0:1<=(name.size:Int)/\(name.size:Int)<=20)(g1:Tf.iM name.data.toList=true)(g2:gQ.size=32)(g3:1<=cap/\cap<=600000)(g4: ¬(8<=blk/\blk<=1024))(w:fV):f_ Vh 16 #[p_ tb,.agg (rM k0.toNat k1.toNat k2.toNat k3.toNat k4.toNat k5.toNat name cap gQ blk win rx tx)] w fun e w'=>e=.returned (.tuple #[.pointer none,.bool false])/\gm w.heap.size w w':=by
 have H0:=fun u=>gu (gX (name.size:Int) 1 20 u g0)
 have H1:=fun u=>gu (lX name true u g1 (by have:=g0.2;omega))
 have hd:((gQ.size:Int)==32)=true:=by simp[g2]
 have H3:=fun u=>gu (gX cap 1 600000 u g3)
 have H4:=fun u=>gu (oq blk 8 1024 u g4)
 clear g0 g1 g2 g3 g4
 go_enter func16,ntmps16
 go_wp2_with fail
 refine(gB (H0 _)).mono ?_
 rintro ee u ⟨rfl,rfl⟩
 go_wp2_with fail
 refine(gB (H1 _)).mono ?_
 rintro ee u ⟨rfl,rfl⟩
 go_wp2_with fail
 refine(gB (H3 _)).mono ?_
 rintro ee u ⟨rfl,rfl⟩
 go_wp2_with fail
 refine(gB (H4 _)).mono ?_
 rintro ee u ⟨rfl,rfl⟩
 go_wp2
 go_ret2
 exact⟨rfl,(R9 w.heap.size w).alloc (ai _) _⟩
theorem Tg(tb:Nat)(k0 k1 k2 k3 k4 k5:UInt8)(name:ByteArray)(cap:Int)(gQ:ByteArray)(blk win rx tx:Int)(g0:1<=(name.size:Int)/\(name.size:Int)<=20)(g1:Tf.iM name.data.toList=true)(g2:gQ.size=32)(g3:1<=cap/\cap<=600000)(g4:8<=blk/\blk<=1024)(g5: ¬(1<=win/\win<=8))(w:fV):f_ Vh 16 #[p_ tb,.agg (rM k0.toNat k1.toNat k2.toNat k3.toNat k4.toNat k5.toNat name cap gQ blk win rx tx)] w fun e w'=>e=.returned (.tuple #[.pointer none,.bool false])/\gm w.heap.size w w':=by
 have H0:=fun u=>gu (gX (name.size:Int) 1 20 u g0)
 have H1:=fun u=>gu (lX name true u g1 (by have:=g0.2;omega))
 have hd:((gQ.size:Int)==32)=true:=by simp[g2]
 have H3:=fun u=>gu (gX cap 1 600000 u g3)
 have H4:=fun u=>gu (gX blk 8 1024 u g4)
 have H5:=fun u=>gu (oq win 1 8 u g5)
 clear g0 g1 g2 g3 g4 g5
 go_enter func16,ntmps16
 go_wp2_with fail
 refine(gB (H0 _)).mono ?_
 rintro ee u ⟨rfl,rfl⟩
 go_wp2_with fail
 refine(gB (H1 _)).mono ?_
 rintro ee u ⟨rfl,rfl⟩
 go_wp2_with fail
 refine(gB (H3 _)).mono ?_
 rintro ee u ⟨rfl,rfl⟩
 go_wp2_with fail
 refine(gB (H4 _)).mono ?_
 rintro ee u ⟨rfl,rfl⟩
 go_wp2_with fail
 refine(gB (H5 _)).mono ?_
 rintro ee u ⟨rfl,rfl⟩
 go_wp2
 go_ret2
 exact⟨rfl,(R9 w.heap.size w).alloc (ai _) _⟩
theorem SQ(tb:Nat)(k0 k1 k2 k3 k4 k5:UInt8)(name:ByteArray)(cap:Int)(gQ:ByteArray)(blk win rx tx:Int)(g0:1<=(name.size:Int)/\(name.size:Int)<=20)(g1:Tf.iM name.data.toList=true)(g2:gQ.size=32)(g3:1<=cap/\cap<=600000)(g4:8<=blk/\blk<=1024)(g5:1<=win/\win<=8)(g6: ¬(1<=rx/\rx<=16))(w:fV):f_ Vh 16 #[p_ tb,.agg (rM k0.toNat k1.toNat k2.toNat k3.toNat k4.toNat k5.toNat name cap gQ blk win rx tx)] w fun e w'=>e=.returned (.tuple #[.pointer none,.bool false])/\gm w.heap.size w w':=by
 have H0:=fun u=>gu (gX (name.size:Int) 1 20 u g0)
 have H1:=fun u=>gu (lX name true u g1 (by have:=g0.2;omega))
 have hd:((gQ.size:Int)==32)=true:=by simp[g2]
 have H3:=fun u=>gu (gX cap 1 600000 u g3)
 have H4:=fun u=>gu (gX blk 8 1024 u g4)
 have H5:=fun u=>gu (gX win 1 8 u g5)
 have H6:=fun u=>gu (oq rx 1 16 u g6)
 clear g0 g1 g2 g3 g4 g5 g6
 go_enter func16,ntmps16
 go_wp2_with fail
 refine(gB (H0 _)).mono ?_
 rintro ee u ⟨rfl,rfl⟩
 go_wp2_with fail
 refine(gB (H1 _)).mono ?_
 rintro ee u ⟨rfl,rfl⟩
 go_wp2_with fail
 refine(gB (H3 _)).mono ?_
 rintro ee u ⟨rfl,rfl⟩
 go_wp2_with fail
 refine(gB (H4 _)).mono ?_
 rintro ee u ⟨rfl,rfl⟩
 go_wp2_with fail
 refine(gB (H5 _)).mono ?_
 rintro ee u ⟨rfl,rfl⟩
 go_wp2_with fail
 refine(gB (H6 _)).mono ?_
 rintro ee u ⟨rfl,rfl⟩
 go_wp2
 go_ret2
 exact⟨rfl,(R9 w.heap.size w).alloc (ai _) _⟩
theorem Sz(tb:Nat)(k0 k1 k2 k3 k4 k5:UInt8)(name:ByteArray)(cap:Int)(gQ:ByteArray)(blk win rx tx:Int)(g0:1<=(name.size:Int)/\(name.size:Int)<=20)(g1:Tf.iM name.data.toList=true)(g2:gQ.size=32)(g3:1<=cap/\cap<=600000)(g4:8<=blk/\blk<=1024)(g5:1<=win/\win<=8)(g6:1<=rx/\rx<=16)(g7: ¬(1<=tx/\tx<=16))(w:fV):f_ Vh 16 #[p_ tb,.agg (rM k0.toNat k1.toNat k2.toNat k3.toNat k4.toNat k5.toNat name cap gQ blk win rx tx)] w fun e w'=>e=.returned (.tuple #[.pointer none,.bool false])/\gm w.heap.size w w':=by
 have H0:=fun u=>gu (gX (name.size:Int) 1 20 u g0)
 have H1:=fun u=>gu (lX name true u g1 (by have:=g0.2;omega))
 have hd:((gQ.size:Int)==32)=true:=by simp[g2]
 have H3:=fun u=>gu (gX cap 1 600000 u g3)
 have H4:=fun u=>gu (gX blk 8 1024 u g4)
 have H5:=fun u=>gu (gX win 1 8 u g5)
 have H6:=fun u=>gu (gX rx 1 16 u g6)
 have H7:=fun u=>gu (oq tx 1 16 u g7)
 clear g0 g1 g2 g3 g4 g5 g6 g7
 go_enter func16,ntmps16
 go_wp2_with fail
 refine(gB (H0 _)).mono ?_
 rintro ee u ⟨rfl,rfl⟩
 go_wp2_with fail
 refine(gB (H1 _)).mono ?_
 rintro ee u ⟨rfl,rfl⟩
 go_wp2_with fail
 refine(gB (H3 _)).mono ?_
 rintro ee u ⟨rfl,rfl⟩
 go_wp2_with fail
 refine(gB (H4 _)).mono ?_
 rintro ee u ⟨rfl,rfl⟩
 go_wp2_with fail
 refine(gB (H5 _)).mono ?_
 rintro ee u ⟨rfl,rfl⟩
 go_wp2_with fail
 refine(gB (H6 _)).mono ?_
 rintro ee u ⟨rfl,rfl⟩
 go_wp2_with fail
 refine(gB (H7 _)).mono ?_
 rintro ee u ⟨rfl,rfl⟩
 go_wp2
 go_ret2
 exact⟨rfl,(R9 w.heap.size w).alloc (ai _) _⟩
theorem Ti(tb:Nat)(k0 k1 k2 k3 k4 k5:UInt8)(name:ByteArray)(cap:Int)(gQ:ByteArray)(blk win rx tx:Int)(g0:1<=(name.size:Int)/\(name.size:Int)<=20)(g1:Tf.iM name.data.toList=true)(g2:gQ.size=32)(g3:1<=cap/\cap<=600000)(g4:8<=blk/\blk<=1024)(g5:1<=win/\win<=8)(g6:1<=rx/\rx<=16)(g7:1<=tx/\tx<=16)(g8:(k0.toNat==0 && k1.toNat==0 && k2.toNat==0 && k3.toNat==0 && k4.toNat==0 && k5.toNat==0)=true)(w:fV):f_ Vh 16 #[p_ tb,.agg (rM k0.toNat k1.toNat k2.toNat k3.toNat k4.toNat k5.toNat name cap gQ blk win rx tx)] w fun e w'=>e=.returned (.tuple #[.pointer none,.bool false])/\gm w.heap.size w w':=by
 have H0:=fun u=>gu (gX (name.size:Int) 1 20 u g0)
 have H1:=fun u=>gu (lX name true u g1 (by have:=g0.2;omega))
 have hd:((gQ.size:Int)==32)=true:=by simp[g2]
 have H3:=fun u=>gu (gX cap 1 600000 u g3)
 have H4:=fun u=>gu (gX blk 8 1024 u g4)
 have H5:=fun u=>gu (gX win 1 8 u g5)
 have H6:=fun u=>gu (gX rx 1 16 u g6)
 have H7:=fun u=>gu (gX tx 1 16 u g7)
 have hq:=fun u=>iC k0.toNat k1.toNat k2.toNat k3.toNat k4.toNat k5.toNat 0 0 0 0 0 0 u
 simp only[zb]at hq
 rw[g8]at hq
 clear g0 g1 g2 g3 g4 g5 g6 g7 g8
 go_enter func16,ntmps16
 go_wp2_with fail
 refine(gB (H0 _)).mono ?_
 rintro ee u ⟨rfl,rfl⟩
 go_wp2_with fail
 refine(gB (H1 _)).mono ?_
 rintro ee u ⟨rfl,rfl⟩
 go_wp2_with fail
 refine(gB (H3 _)).mono ?_
 rintro ee u ⟨rfl,rfl⟩
 go_wp2_with fail
 refine(gB (H4 _)).mono ?_
 rintro ee u ⟨rfl,rfl⟩
 go_wp2_with fail
 refine(gB (H5 _)).mono ?_
 rintro ee u ⟨rfl,rfl⟩
 go_wp2_with fail
 refine(gB (H6 _)).mono ?_
 rintro ee u ⟨rfl,rfl⟩
 go_wp2_with fail
 refine(gB (H7 _)).mono ?_
 rintro ee u ⟨rfl,rfl⟩
 go_wp2
 go_ret2
 exact⟨rfl,(R9 w.heap.size w).alloc (ai _) _⟩
end Ref
namespace Ref
open Bs Js
theorem Gw{P:Program}{w:fV}{o:Oper}{a:Act}{K:Act->fV->Prop}{Q:Exit->Act->fV->Prop}(t:TypeId)(i j:Nat)(x y:Operand)
  (ho:o.op=.build t #[(i,x),(j,y)]) (xv yv v:Value) (hx:a.eval x=xv) (hy:a.eval y=yv) (hrun:(Instr.build t #[(i,xv),(j,yv)]).run P w=.ok v w)
  (h:K (a.put o.dst v) w):o.wp P a w K Q:=by
 unfold Oper.wp
 simp[execOp,ho,hx,hy,hrun,Result.andThen]
 exact h
theorem TG(tb:Nat)(k0 k1 k2 k3 k4 k5:UInt8)(name:ByteArray)(cap:Int)(gQ:ByteArray)(blk win rx tx:Int)(g0:1<=(name.size:Int)/\(name.size:Int)<=20)(g1:Tf.iM name.data.toList=true)(g2:gQ.size=32)(g3:1<=cap/\cap<=600000)(g4:8<=blk/\blk<=1024)(g5:1<=win/\win<=8)(g6:1<=rx/\rx<=16)(g7:1<=tx/\tx<=16)(g8:(k0.toNat==0 && k1.toNat==0 && k2.toNat==0 && k3.toNat==0 && k4.toNat==0 && k5.toNat==0)=false)(g9:k0.toNat%2=1)(w:fV):f_ Vh 16 #[p_ tb,.agg (rM k0.toNat k1.toNat k2.toNat k3.toNat k4.toNat k5.toNat name cap gQ blk win rx tx)] w fun e w'=>e=.returned (.tuple #[.pointer none,.bool false])/\gm w.heap.size w w':=by
 have H0:=fun u=>gu (gX (name.size:Int) 1 20 u g0)
 have H1:=fun u=>gu (lX name true u g1 (by have:=g0.2;omega))
 have hd:((gQ.size:Int)==32)=true:=by simp[g2]
 have H3:=fun u=>gu (gX cap 1 600000 u g3)
 have H4:=fun u=>gu (gX blk 8 1024 u g4)
 have H5:=fun u=>gu (gX win 1 8 u g5)
 have H6:=fun u=>gu (gX rx 1 16 u g6)
 have H7:=fun u=>gu (gX tx 1 16 u g7)
 have hq:=fun u=>iC k0.toNat k1.toNat k2.toNat k3.toNat k4.toNat k5.toNat 0 0 0 0 0 0 u
 simp only[zb]at hq
 rw[g8]at hq
 have ho:((k0.toNat:Int).tmod 2==1)=true:=by rw[bL (by omega)];rw[fT];omega
 have ho2:((k0.toNat:Int)%2==1)=true:=by rw[fT];omega
 have ho3:(((k0.toNat%2:Nat):Int)==1)=true:=by rw[fT];omega
 have ho4:((k0.toNat:Int)%2=1):=by omega
 have hwp:IntKind.u8.wrap ((k0.toNat:Int).tmod 2)=(k0.toNat:Int).tmod 2:=by
  rw[bL (by omega)]
  rw[IntKind.wrap_u8];omega
 clear g0 g1 g2 g3 g4 g5 g6 g7 g8
 go_enter func16,ntmps16
 go_wp2_with fail
 refine(gB (H0 _)).mono ?_
 rintro ee u ⟨rfl,rfl⟩
 go_wp2_with fail
 refine(gB (H1 _)).mono ?_
 rintro ee u ⟨rfl,rfl⟩
 go_wp2_with fail
 refine(gB (H3 _)).mono ?_
 rintro ee u ⟨rfl,rfl⟩
 go_wp2_with fail
 refine(gB (H4 _)).mono ?_
 rintro ee u ⟨rfl,rfl⟩
 go_wp2_with fail
 refine(gB (H5 _)).mono ?_
 rintro ee u ⟨rfl,rfl⟩
 go_wp2_with fail
 refine(gB (H6 _)).mono ?_
 rintro ee u ⟨rfl,rfl⟩
 go_wp2_with fail
 refine(gB (H7 _)).mono ?_
 rintro ee u ⟨rfl,rfl⟩
 go_wp2
 go_ret2
 exact⟨rfl,(R9 w.heap.size w).alloc (ai _) _⟩
theorem zC(tb:Nat)(k0 k1 k2 k3 k4 k5:UInt8)(name:ByteArray)(cap:Int)(gQ:ByteArray)(blk win rx tx:Int)(g0:1<=(name.size:Int)/\(name.size:Int)<=20)(g1:Tf.iM name.data.toList=true)(g2:gQ.size=32)(g3:1<=cap/\cap<=600000)(g4:8<=blk/\blk<=1024)(g5:1<=win/\win<=8)(g6:1<=rx/\rx<=16)(g7:1<=tx/\tx<=16)(g8:(k0.toNat==0 && k1.toNat==0 && k2.toNat==0 && k3.toNat==0 && k4.toNat==0 && k5.toNat==0)=false)(g9:k0.toNat%2=0)(w:fV)(hng:9<=w.heap.size)(hgl:Gr w):f_ Vh 16 #[p_ tb,.agg (rM k0.toNat k1.toNat k2.toNat k3.toNat k4.toNat k5.toNat name cap gQ blk win rx tx)] w fun e w'=>∃G,e=.returned (.tuple #[p_ G,.bool true])/\Rm w (fun _=>False) w' G (Rq (p_ tb) k0 k1 k2 k3 k4 k5 name cap gQ blk win rx.toNat tx.toNat):=by
 have H0:=fun u=>gu (gX (name.size:Int) 1 20 u g0)
 have H1:=fun u=>gu (lX name true u g1 (by have:=g0.2;omega))
 have hd:((gQ.size:Int)==32)=true:=by simp[g2]
 have H3:=fun u=>gu (gX cap 1 600000 u g3)
 have H4:=fun u=>gu (gX blk 8 1024 u g4)
 have H5:=fun u=>gu (gX win 1 8 u g5)
 have H6:=fun u=>gu (gX rx 1 16 u g6)
 have H7:=fun u=>gu (gX tx 1 16 u g7)
 have hq:=fun u=>iC k0.toNat k1.toNat k2.toNat k3.toNat k4.toNat k5.toNat 0 0 0 0 0 0 u
 simp only[zb]at hq
 rw[g8]at hq
 have ho:((k0.toNat:Int).tmod 2==1)=false:=by rw[bL (by omega)];rw[aD];omega
 have ho2:((k0.toNat:Int)%2==1)=false:=by rw[aD];omega
 have ho3:(((k0.toNat%2:Nat):Int)==1)=false:=by rw[aD];omega
 have ho4: ¬((k0.toNat:Int)%2=1):=by omega
 have hwp:IntKind.u8.wrap ((k0.toNat:Int).tmod 2)=(k0.toNat:Int).tmod 2:=by
  rw[bL (by omega)]
  rw[IntKind.wrap_u8];omega
 have hbuild:∀u,(Instr.build 57 #[(0,(p_ tb)),(1,.agg (rM k0.toNat k1.toNat k2.toNat k3.toNat k4.toNat k5.toNat name cap gQ blk win rx tx))]).run Vh u=.ok (.agg #[p_ tb,Vb Vd k0.toNat,Vb Vd k1.toNat,Vb Vd k2.toNat,Vb Vd k3.toNat,Vb Vd k4.toNat,Vb Vd k5.toNat,.string name,Vb Vg cap,.string gQ,Vb Vg blk,Vb Vg win,Vb Vg rx,Vb Vg tx,.slice none 0 0,.slice none 0 0,Vb Vg 0,Vb Vf 0,Vb Vg 0,Vb Vg 0,Vb Vg 0,.slice none 0 0,Vb Vg 0,Vb Vf 0,Vb Vf 0,Vb Vf 0,Vb Vf 0,Vb Vf 0,Vb Vf 0,Vb Vg 0,Vb Vg 0,Vb Vg 0,Vb Vg 0,Vb Vg 0,Vb Vg 0,Vb Vg 0,Vb Vg 0,Vb Vg 0,Vb Vg 0,Vb Vg 0,Vb Vg 0,Vb Vg 0,Vb Vg 0,Vb Vg 0,.string ⟨#[]⟩,.slice none 0 0]) u:=fun u=>run_build u _ _ _ (by kernel_rfl)
 have hrx:((rx.toNat:Nat):Int)=rx:=by omega
 have htx:((tx.toNat:Nat):Int)=tx:=by omega
 have HRX:=gu hrx
 have HTX:=gu htx
 have HNG:=gu hng
 have HGL:=gu hgl
 clear hrx htx hng hgl
 clear g0 g1 g2 g3 g4 g5 g6 g7 g8
 go_enter func16,ntmps16
 go_wp2_with fail
 refine(gB (H0 _)).mono ?_
 rintro ee u ⟨rfl,rfl⟩
 go_wp2_with fail
 refine(gB (H1 _)).mono ?_
 rintro ee u ⟨rfl,rfl⟩
 go_wp2_with fail
 refine(gB (H3 _)).mono ?_
 rintro ee u ⟨rfl,rfl⟩
 go_wp2_with fail
 refine(gB (H4 _)).mono ?_
 rintro ee u ⟨rfl,rfl⟩
 go_wp2_with fail
 refine(gB (H5 _)).mono ?_
 rintro ee u ⟨rfl,rfl⟩
 go_wp2_with fail
 refine(gB (H6 _)).mono ?_
 rintro ee u ⟨rfl,rfl⟩
 go_wp2_with fail
 refine(gB (H7 _)).mono ?_
 rintro ee u ⟨rfl,rfl⟩
 have HBUILD:=gu hbuild
 clear hbuild
 go_wp2
 refine Gw 57 0 1 (.tmp 64) (.tmp 65) rfl _ _ _ rfl rfl (HBUILD _) ?_
 apply_assumption
 go_wp2
 go_ret2
 refine⟨_,rfl,RI ((R9 w.heap.size w).alloc (ai _) _) (by simp) ?_ rfl rfl rfl rfl HNG HGL⟩
 simp only[Rf.cells,Rq]
 rw[gB HRX,gB HTX]
theorem Hr(tb:Nat)(k0 k1 k2 k3 k4 k5:UInt8)(name:ByteArray)(cap:Int)(gQ:ByteArray)(blk win rx tx:Int)(hg: ¬(qg.mk k0 k1 k2 k3 k4 k5 name cap gQ blk win rx tx).Good)(w:fV):f_ Vh 16 #[p_ tb,.agg (rM k0.toNat k1.toNat k2.toNat k3.toNat k4.toNat k5.toNat name cap gQ blk win rx tx)] w fun e w'=>e=.returned (.tuple #[.pointer none,.bool false])/\gm w.heap.size w w':=by
 by_cases g0:1<=(name.size:Int)/\(name.size:Int)<=20
 case neg=>exact Tw tb k0 k1 k2 k3 k4 k5 name cap gQ blk win rx tx g0 w
 cases g1:Tf.iM name.data.toList with
 |false=>exact Sy tb k0 k1 k2 k3 k4 k5 name cap gQ blk win rx tx g0 g1 w
 |true=>
  by_cases g2:gQ.size=32
  case neg=>exact SB tb k0 k1 k2 k3 k4 k5 name cap gQ blk win rx tx g0 g1 g2 w
  by_cases g3:1<=cap/\cap<=600000
  case neg=>exact SN tb k0 k1 k2 k3 k4 k5 name cap gQ blk win rx tx g0 g1 g2 g3 w
  by_cases g4:8<=blk/\blk<=1024
  case neg=>exact Sr tb k0 k1 k2 k3 k4 k5 name cap gQ blk win rx tx g0 g1 g2 g3 g4 w
  by_cases g5:1<=win/\win<=8
  case neg=>exact Tg tb k0 k1 k2 k3 k4 k5 name cap gQ blk win rx tx g0 g1 g2 g3 g4 g5 w
  by_cases g6:1<=rx/\rx<=16
  case neg=>exact SQ tb k0 k1 k2 k3 k4 k5 name cap gQ blk win rx tx g0 g1 g2 g3 g4 g5 g6 w
  by_cases g7:1<=tx/\tx<=16
  case neg=>exact Sz tb k0 k1 k2 k3 k4 k5 name cap gQ blk win rx tx g0 g1 g2 g3 g4 g5 g6 g7 w
  cases g8:(k0.toNat==0 && k1.toNat==0 && k2.toNat==0 && k3.toNat==0 && k4.toNat==0 && k5.toNat==0)with
  |true=>exact Ti tb k0 k1 k2 k3 k4 k5 name cap gQ blk win rx tx g0 g1 g2 g3 g4 g5 g6 g7 g8 w
  |false=>
   by_cases g9:k0.toNat%2=1
   ·exact TG tb k0 k1 k2 k3 k4 k5 name cap gQ blk win rx tx g0 g1 g2 g3 g4 g5 g6 g7 g8 g9 w
   ·exact absurd (show(qg.mk k0 k1 k2 k3 k4 k5 name cap gQ blk win rx tx).Good from⟨by
     show nO k0 k1 k2 k3 k4 k5=true
     unfold nO
     rw[g8]
     have:k0.toNat%2=0:=by omega
     simp[this],g1,by show name.size<=20;omega,g2,g3,g4,g5,g6,g7⟩) hg
theorem KR{l:List UInt8}(h:Tf.iM l=true):1<=l.length:=by
 cases l with
 |nil=>simp[Tf.iM]at h
 |cons a r=>simp
theorem JE(tb:Nat)(k0 k1 k2 k3 k4 k5:UInt8)(name:ByteArray)(cap:Int)(gQ:ByteArray)(blk win rx tx:Int)(hg:(qg.mk k0 k1 k2 k3 k4 k5 name cap gQ blk win rx tx).Good)(w:fV)(hng:9<=w.heap.size)(hgl:Gr w):f_ Vh 16 #[p_ tb,.agg (rM k0.toNat k1.toNat k2.toNat k3.toNat k4.toNat k5.toNat name cap gQ blk win rx tx)] w fun e w'=>∃G,e=.returned (.tuple #[p_ G,.bool true])/\Rm w (fun _=>False) w' G (Rq (p_ tb) k0 k1 k2 k3 k4 k5 name cap gQ blk win rx.toNat tx.toNat):=by
 have hc:nO k0 k1 k2 k3 k4 k5=true:=hg.card
 unfold nO at hc
 rw[dw,Bool.not_eq_true',fT]at hc
 have h1:=KR hg.name
 have h2:name.size<=20:=hg.long
 have h3:name.data.toList.length=name.size:=by rw[aF];rfl
 exact zC tb k0 k1 k2 k3 k4 k5 name cap gQ blk win rx tx (by dsimp only at h1;omega) hg.name hg.gQ hg.cap hg.blk hg.win hg.rx hg.tx hc.1 hc.2 w hng hgl
end Ref
end Go.Proofs.YtbhbbeebncmaiaaGreatDoor
