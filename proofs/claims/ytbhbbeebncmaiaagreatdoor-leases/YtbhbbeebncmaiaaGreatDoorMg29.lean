import Derived.Test.YtbhbbeebncmaiaaGreatDoorMg09
set_option linter.all false
set_option maxHeartbeats 2000000
open Go.ChangeShapes Go.WideShapes Go.ChangeAt Go.RowKit
open Go renaming World → fV, Calls → f_
open Go.RowKit renaming Below → gm
open Go.Proofs.Tryz renaming prog → Vh
open Go.Proofs.Tryz
namespace Go.Proofs.YtbhbbeebncmaiaaGreatDoor
namespace Js
open Bs
variable{w0:fV} {P:Nat→Prop} {w w':fV} {B:Nat} {m m':Mc}
theorem jS(n a b:Int)(w:fV)(h1:a<=n)(h2:n<=b):f_ Vh 77 (rH n a b) w fun e w'=>e=.returned (.bool true)/\w'=w:=by
 have q:=EA n a b w
 have e:(decide (a<=n) && decide (n<=b))=true:=by simp[h1,h2]
 rw[e]at q
 exact q
structure qg where
 k0:UInt8
 k1:UInt8
 k2:UInt8
 k3:UInt8
 k4:UInt8
 k5:UInt8
 name:ByteArray
 cap:Int
 gQ:ByteArray
 blk:Int
 win:Int
 rx:Int
 tx:Int
structure qg.Good (c:qg):Prop where
 card:nO c.k0 c.k1 c.k2 c.k3 c.k4 c.k5=true
 name:Tf.iM c.name.data.toList=true
 long:c.name.size<=20
 gQ:c.gQ.size=32
 cap:1<=c.cap/\c.cap<=600000
 blk:8<=c.blk/\c.blk<=1024
 win:1<=c.win/\c.win<=8
 rx:1<=c.rx/\c.rx<=16
 tx:1<=c.tx/\c.tx<=16
theorem Ik(c:qg)(hg:c.Good)(w:fV):f_ Vh 48 #[.agg (rM c.k0.toNat c.k1.toNat c.k2.toNat c.k3.toNat c.k4.toNat c.k5.toNat c.name c.cap c.gQ c.blk c.win c.rx c.tx)] w fun e w'=>e=.returned (.bool true)/\gm w.heap.size w w':=by
 obtain⟨k0,k1,k2,k3,k4,k5,name,cap,gQ,blk,win,rx,tx⟩:=c
 obtain⟨g1,g2,g3,g4,g5,g6,g7,g8,g9⟩:=hg
 dsimp only at*
 have HC:=fun u=>gu (j5 k0 k1 k2 k3 k4 k5 u)
 rw[g1]at HC
 have HN:=fun u=>gu (Tf.lI name _ u rfl (by rw[jc];omega))
 rw[g2]at HN
 have hlen:(name.size:Int)<=20:=by omega
 have hdig:((gQ.size:Int)==32)=true:=by rw[g4];rfl
 obtain⟨h5a,h5b⟩:=g5
 obtain⟨h6a,h6b⟩:=g6
 obtain⟨h7a,h7b⟩:=g7
 obtain⟨h8a,h8b⟩:=g8
 obtain⟨h9a,h9b⟩:=g9
 clear g1 g2 g3 g4
 go_enter func48,ntmps48
 go_wp2_with fail
 refine(gB (HC _)).mono ?_
 rintro ee u ⟨rfl,hb⟩
 have hc:=rO.iF hb
 have HB:=gu hb
 clear hb HC
 go_wp2_with fail
 refine(gB (HN _)).mono ?_
 rintro ee u2 ⟨rfl,rfl⟩
 go_wp2_with fail
 refine(jS _ _ _ _ h5a h5b).mono ?_
 rintro ee u3 ⟨rfl,rfl⟩
 go_wp2_with fail
 refine(jS _ _ _ _ h6a h6b).mono ?_
 rintro ee u4 ⟨rfl,rfl⟩
 go_wp2_with fail
 refine(jS _ _ _ _ h7a h7b).mono ?_
 rintro ee u5 ⟨rfl,rfl⟩
 go_wp2_with fail
 refine(jS _ _ _ _ h8a h8b).mono ?_
 rintro ee u6 ⟨rfl,rfl⟩
 go_wp2_with fail
 refine(jS _ _ _ _ h9a h9b).mono ?_
 rintro ee u7 ⟨rfl,rfl⟩
 go_wp2
 go_ret
 exact⟨rfl,((R9 w.heap.size w).alloc (ai _) _).trans (HB.mono (by simp))⟩
end Js
namespace Js
open Bs
theorem wZ(n a b:Int)(w:fV)(h: ¬(a<=n/\n<=b)):f_ Vh 77 (rH n a b) w fun e w'=>e=.returned (.bool false)/\w'=w:=by
 have q:=EA n a b w
 have e:(decide (a<=n) && decide (n<=b))=false:=by
  rw[Bool.and_eq_false_iff]
  by_cases h1:a<=n
  ·exact aA (decide_eq_false (fun h2=>h ⟨h1,h2⟩))
  ·exact au (decide_eq_false h1)
 rw[e]at q
 exact q
theorem Pj(k0 k1 k2 k3 k4 k5:UInt8)(name:ByteArray)(cap:Int)(gQ:ByteArray)(blk win rx tx:Int)(g0:nO k0 k1 k2 k3 k4 k5=false)(w:fV):f_ Vh 48 #[.agg (rM k0.toNat k1.toNat k2.toNat k3.toNat k4.toNat k5.toNat name cap gQ blk win rx tx)] w fun e w'=>e=.returned (.bool false)/\gm w.heap.size w w':=by
 have HC:=fun u=>gu (j5 k0 k1 k2 k3 k4 k5 u)
 rw[g0]at HC
 clear g0
 go_enter func48,ntmps48
 go_wp2_with fail
 refine(gB (HC _)).mono ?_
 rintro ee u ⟨rfl,hb⟩
 have hc:=rO.iF hb
 have HB:=gu hb
 clear hb HC
 go_wp2
 go_ret
 exact⟨rfl,((R9 w.heap.size w).alloc (ai _) _).trans (HB.mono (by simp))⟩
theorem PV(k0 k1 k2 k3 k4 k5:UInt8)(name:ByteArray)(cap:Int)(gQ:ByteArray)(blk win rx tx:Int)(g0:nO k0 k1 k2 k3 k4 k5=true)(g1: ¬name.size<=20)(w:fV):f_ Vh 48 #[.agg (rM k0.toNat k1.toNat k2.toNat k3.toNat k4.toNat k5.toNat name cap gQ blk win rx tx)] w fun e w'=>e=.returned (.bool false)/\gm w.heap.size w w':=by
 have HC:=fun u=>gu (j5 k0 k1 k2 k3 k4 k5 u)
 rw[g0]at HC
 have hlen: ¬(name.size:Int)<=20:=by omega
 clear g1
 clear g0
 go_enter func48,ntmps48
 go_wp2_with fail
 refine(gB (HC _)).mono ?_
 rintro ee u ⟨rfl,hb⟩
 have hc:=rO.iF hb
 have HB:=gu hb
 clear hb HC
 go_wp2
 go_ret
 exact⟨rfl,((R9 w.heap.size w).alloc (ai _) _).trans (HB.mono (by simp))⟩
theorem PL(k0 k1 k2 k3 k4 k5:UInt8)(name:ByteArray)(cap:Int)(gQ:ByteArray)(blk win rx tx:Int)(g0:nO k0 k1 k2 k3 k4 k5=true)(g1:name.size<=20)(g2:Tf.iM name.data.toList=false)(w:fV):f_ Vh 48 #[.agg (rM k0.toNat k1.toNat k2.toNat k3.toNat k4.toNat k5.toNat name cap gQ blk win rx tx)] w fun e w'=>e=.returned (.bool false)/\gm w.heap.size w w':=by
 have HC:=fun u=>gu (j5 k0 k1 k2 k3 k4 k5 u)
 rw[g0]at HC
 have HN:=fun u=>gu (Tf.lI name _ u rfl (by rw[jc];omega))
 rw[g2]at HN
 have hlen:(name.size:Int)<=20:=by omega
 clear g1 g2
 clear g0
 go_enter func48,ntmps48
 go_wp2_with fail
 refine(gB (HC _)).mono ?_
 rintro ee u ⟨rfl,hb⟩
 have hc:=rO.iF hb
 have HB:=gu hb
 clear hb HC
 go_wp2_with fail
 refine(gB (HN _)).mono ?_
 rintro ee u2 ⟨rfl,rfl⟩
 go_wp2
 go_ret
 exact⟨rfl,((R9 w.heap.size w).alloc (ai _) _).trans (HB.mono (by simp))⟩
theorem PW(k0 k1 k2 k3 k4 k5:UInt8)(name:ByteArray)(cap:Int)(gQ:ByteArray)(blk win rx tx:Int)(g0:nO k0 k1 k2 k3 k4 k5=true)(g1:name.size<=20)(g2:Tf.iM name.data.toList=true)(g3: ¬gQ.size=32)(w:fV):f_ Vh 48 #[.agg (rM k0.toNat k1.toNat k2.toNat k3.toNat k4.toNat k5.toNat name cap gQ blk win rx tx)] w fun e w'=>e=.returned (.bool false)/\gm w.heap.size w w':=by
 have HC:=fun u=>gu (j5 k0 k1 k2 k3 k4 k5 u)
 rw[g0]at HC
 have HN:=fun u=>gu (Tf.lI name _ u rfl (by rw[jc];omega))
 rw[g2]at HN
 have hlen:(name.size:Int)<=20:=by omega
 clear g1 g2
 have hdig:((gQ.size:Int)==32)=false:=by simp;omega
 clear g3
 clear g0
 go_enter func48,ntmps48
 go_wp2_with fail
 refine(gB (HC _)).mono ?_
 rintro ee u ⟨rfl,hb⟩
 have hc:=rO.iF hb
 have HB:=gu hb
 clear hb HC
 go_wp2_with fail
 refine(gB (HN _)).mono ?_
 rintro ee u2 ⟨rfl,rfl⟩
 go_wp2
 go_ret
 exact⟨rfl,((R9 w.heap.size w).alloc (ai _) _).trans (HB.mono (by simp))⟩
theorem OC(k0 k1 k2 k3 k4 k5:UInt8)(name:ByteArray)(cap:Int)(gQ:ByteArray)(blk win rx tx:Int)(g0:nO k0 k1 k2 k3 k4 k5=true)(g1:name.size<=20)(g2:Tf.iM name.data.toList=true)(g3:gQ.size=32)(g4: ¬(1<=cap/\cap<=600000))(w:fV):f_ Vh 48 #[.agg (rM k0.toNat k1.toNat k2.toNat k3.toNat k4.toNat k5.toNat name cap gQ blk win rx tx)] w fun e w'=>e=.returned (.bool false)/\gm w.heap.size w w':=by
 have HC:=fun u=>gu (j5 k0 k1 k2 k3 k4 k5 u)
 rw[g0]at HC
 have HN:=fun u=>gu (Tf.lI name _ u rfl (by rw[jc];omega))
 rw[g2]at HN
 have hlen:(name.size:Int)<=20:=by omega
 clear g1 g2
 have hdig:((gQ.size:Int)==32)=true:=by rw[g3];rfl
 clear g3
 clear g0
 go_enter func48,ntmps48
 go_wp2_with fail
 refine(gB (HC _)).mono ?_
 rintro ee u ⟨rfl,hb⟩
 have hc:=rO.iF hb
 have HB:=gu hb
 clear hb HC
 go_wp2_with fail
 refine(gB (HN _)).mono ?_
 rintro ee u2 ⟨rfl,rfl⟩
 go_wp2_with fail
 refine(wZ _ _ _ _ g4).mono ?_
 rintro ee u3 ⟨rfl,rfl⟩
 go_wp2
 go_ret
 exact⟨rfl,((R9 w.heap.size w).alloc (ai _) _).trans (HB.mono (by simp))⟩
theorem P_(k0 k1 k2 k3 k4 k5:UInt8)(name:ByteArray)(cap:Int)(gQ:ByteArray)(blk win rx tx:Int)(g0:nO k0 k1 k2 k3 k4 k5=true)(g1:name.size<=20)(g2:Tf.iM name.data.toList=true)(g3:gQ.size=32)(g4:(1<=cap/\cap<=600000))(g5: ¬(8<=blk/\blk<=1024))(w:fV):f_ Vh 48 #[.agg (rM k0.toNat k1.toNat k2.toNat k3.toNat k4.toNat k5.toNat name cap gQ blk win rx tx)] w fun e w'=>e=.returned (.bool false)/\gm w.heap.size w w':=by
 have HC:=fun u=>gu (j5 k0 k1 k2 k3 k4 k5 u)
 rw[g0]at HC
 have HN:=fun u=>gu (Tf.lI name _ u rfl (by rw[jc];omega))
 rw[g2]at HN
 have hlen:(name.size:Int)<=20:=by omega
 clear g1 g2
 have hdig:((gQ.size:Int)==32)=true:=by rw[g3];rfl
 clear g3
 clear g0
 go_enter func48,ntmps48
 go_wp2_with fail
 refine(gB (HC _)).mono ?_
 rintro ee u ⟨rfl,hb⟩
 have hc:=rO.iF hb
 have HB:=gu hb
 clear hb HC
 go_wp2_with fail
 refine(gB (HN _)).mono ?_
 rintro ee u2 ⟨rfl,rfl⟩
 go_wp2_with fail
 refine(jS _ _ _ _ g4.1 g4.2).mono ?_
 rintro ee u3 ⟨rfl,rfl⟩
 go_wp2_with fail
 refine(wZ _ _ _ _ g5).mono ?_
 rintro ee u4 ⟨rfl,rfl⟩
 go_wp2
 go_ret
 exact⟨rfl,((R9 w.heap.size w).alloc (ai _) _).trans (HB.mono (by simp))⟩
theorem OL(k0 k1 k2 k3 k4 k5:UInt8)(name:ByteArray)(cap:Int)(gQ:ByteArray)(blk win rx tx:Int)(g0:nO k0 k1 k2 k3 k4 k5=true)(g1:name.size<=20)(g2:Tf.iM name.data.toList=true)(g3:gQ.size=32)(g4:(1<=cap/\cap<=600000))(g5:(8<=blk/\blk<=1024))(g6: ¬(1<=win/\win<=8))(w:fV):f_ Vh 48 #[.agg (rM k0.toNat k1.toNat k2.toNat k3.toNat k4.toNat k5.toNat name cap gQ blk win rx tx)] w fun e w'=>e=.returned (.bool false)/\gm w.heap.size w w':=by
 have HC:=fun u=>gu (j5 k0 k1 k2 k3 k4 k5 u)
 rw[g0]at HC
 have HN:=fun u=>gu (Tf.lI name _ u rfl (by rw[jc];omega))
 rw[g2]at HN
 have hlen:(name.size:Int)<=20:=by omega
 clear g1 g2
 have hdig:((gQ.size:Int)==32)=true:=by rw[g3];rfl
 clear g3
 clear g0
 go_enter func48,ntmps48
 go_wp2_with fail
 refine(gB (HC _)).mono ?_
 rintro ee u ⟨rfl,hb⟩
 have hc:=rO.iF hb
 have HB:=gu hb
 clear hb HC
 go_wp2_with fail
 refine(gB (HN _)).mono ?_
 rintro ee u2 ⟨rfl,rfl⟩
 go_wp2_with fail
 refine(jS _ _ _ _ g4.1 g4.2).mono ?_
 rintro ee u3 ⟨rfl,rfl⟩
 go_wp2_with fail
 refine(jS _ _ _ _ g5.1 g5.2).mono ?_
 rintro ee u4 ⟨rfl,rfl⟩
 go_wp2_with fail
 refine(wZ _ _ _ _ g6).mono ?_
 rintro ee u5 ⟨rfl,rfl⟩
 go_wp2
 go_ret
 exact⟨rfl,((R9 w.heap.size w).alloc (ai _) _).trans (HB.mono (by simp))⟩
theorem Pt(k0 k1 k2 k3 k4 k5:UInt8)(name:ByteArray)(cap:Int)(gQ:ByteArray)(blk win rx tx:Int)(g0:nO k0 k1 k2 k3 k4 k5=true)(g1:name.size<=20)(g2:Tf.iM name.data.toList=true)(g3:gQ.size=32)(g4:(1<=cap/\cap<=600000))(g5:(8<=blk/\blk<=1024))(g6:(1<=win/\win<=8))(g7: ¬(1<=rx/\rx<=16))(w:fV):f_ Vh 48 #[.agg (rM k0.toNat k1.toNat k2.toNat k3.toNat k4.toNat k5.toNat name cap gQ blk win rx tx)] w fun e w'=>e=.returned (.bool false)/\gm w.heap.size w w':=by
 have HC:=fun u=>gu (j5 k0 k1 k2 k3 k4 k5 u)
 rw[g0]at HC
 have HN:=fun u=>gu (Tf.lI name _ u rfl (by rw[jc];omega))
 rw[g2]at HN
 have hlen:(name.size:Int)<=20:=by omega
 clear g1 g2
 have hdig:((gQ.size:Int)==32)=true:=by rw[g3];rfl
 clear g3
 clear g0
 go_enter func48,ntmps48
 go_wp2_with fail
 refine(gB (HC _)).mono ?_
 rintro ee u ⟨rfl,hb⟩
 have hc:=rO.iF hb
 have HB:=gu hb
 clear hb HC
 go_wp2_with fail
 refine(gB (HN _)).mono ?_
 rintro ee u2 ⟨rfl,rfl⟩
 go_wp2_with fail
 refine(jS _ _ _ _ g4.1 g4.2).mono ?_
 rintro ee u3 ⟨rfl,rfl⟩
 go_wp2_with fail
 refine(jS _ _ _ _ g5.1 g5.2).mono ?_
 rintro ee u4 ⟨rfl,rfl⟩
 go_wp2_with fail
 refine(jS _ _ _ _ g6.1 g6.2).mono ?_
 rintro ee u5 ⟨rfl,rfl⟩
 go_wp2_with fail
 refine(wZ _ _ _ _ g7).mono ?_
 rintro ee u6 ⟨rfl,rfl⟩
 go_wp2
 go_ret
 exact⟨rfl,((R9 w.heap.size w).alloc (ai _) _).trans (HB.mono (by simp))⟩
theorem O_(k0 k1 k2 k3 k4 k5:UInt8)(name:ByteArray)(cap:Int)(gQ:ByteArray)(blk win rx tx:Int)(g0:nO k0 k1 k2 k3 k4 k5=true)(g1:name.size<=20)(g2:Tf.iM name.data.toList=true)(g3:gQ.size=32)(g4:(1<=cap/\cap<=600000))(g5:(8<=blk/\blk<=1024))(g6:(1<=win/\win<=8))(g7:(1<=rx/\rx<=16))(g8: ¬(1<=tx/\tx<=16))(w:fV):f_ Vh 48 #[.agg (rM k0.toNat k1.toNat k2.toNat k3.toNat k4.toNat k5.toNat name cap gQ blk win rx tx)] w fun e w'=>e=.returned (.bool false)/\gm w.heap.size w w':=by
 have HC:=fun u=>gu (j5 k0 k1 k2 k3 k4 k5 u)
 rw[g0]at HC
 have HN:=fun u=>gu (Tf.lI name _ u rfl (by rw[jc];omega))
 rw[g2]at HN
 have hlen:(name.size:Int)<=20:=by omega
 clear g1 g2
 have hdig:((gQ.size:Int)==32)=true:=by rw[g3];rfl
 clear g3
 clear g0
 go_enter func48,ntmps48
 go_wp2_with fail
 refine(gB (HC _)).mono ?_
 rintro ee u ⟨rfl,hb⟩
 have hc:=rO.iF hb
 have HB:=gu hb
 clear hb HC
 go_wp2_with fail
 refine(gB (HN _)).mono ?_
 rintro ee u2 ⟨rfl,rfl⟩
 go_wp2_with fail
 refine(jS _ _ _ _ g4.1 g4.2).mono ?_
 rintro ee u3 ⟨rfl,rfl⟩
 go_wp2_with fail
 refine(jS _ _ _ _ g5.1 g5.2).mono ?_
 rintro ee u4 ⟨rfl,rfl⟩
 go_wp2_with fail
 refine(jS _ _ _ _ g6.1 g6.2).mono ?_
 rintro ee u5 ⟨rfl,rfl⟩
 go_wp2_with fail
 refine(jS _ _ _ _ g7.1 g7.2).mono ?_
 rintro ee u6 ⟨rfl,rfl⟩
 go_wp2_with fail
 refine(wZ _ _ _ _ g8).mono ?_
 rintro ee u7 ⟨rfl,rfl⟩
 go_wp2
 go_ret
 exact⟨rfl,((R9 w.heap.size w).alloc (ai _) _).trans (HB.mono (by simp))⟩
theorem NS(k0 k1 k2 k3 k4 k5:UInt8)(name:ByteArray)(cap:Int)(gQ:ByteArray)(blk win rx tx:Int)(hg: ¬(qg.mk k0 k1 k2 k3 k4 k5 name cap gQ blk win rx tx).Good)(w:fV):f_ Vh 48 #[.agg (rM k0.toNat k1.toNat k2.toNat k3.toNat k4.toNat k5.toNat name cap gQ blk win rx tx)] w fun e w'=>e=.returned (.bool false)/\gm w.heap.size w w':=by
 cases g0:nO k0 k1 k2 k3 k4 k5 with
 |false=>exact Pj k0 k1 k2 k3 k4 k5 name cap gQ blk win rx tx g0 w
 |true=>
  by_cases g1:name.size<=20
  ·cases g2:Tf.iM name.data.toList with
   |false=>exact PL k0 k1 k2 k3 k4 k5 name cap gQ blk win rx tx g0 g1 g2 w
   |true=>
    by_cases g3:gQ.size=32
    ·by_cases g4:1<=cap/\cap<=600000
     ·by_cases g5:8<=blk/\blk<=1024
      ·by_cases g6:1<=win/\win<=8
       ·by_cases g7:1<=rx/\rx<=16
        ·by_cases g8:1<=tx/\tx<=16
         ·exact absurd ⟨g0,g2,g1,g3,g4,g5,g6,g7,g8⟩ hg
         ·exact O_ k0 k1 k2 k3 k4 k5 name cap gQ blk win rx tx g0 g1 g2 g3 g4 g5 g6 g7 g8 w
        ·exact Pt k0 k1 k2 k3 k4 k5 name cap gQ blk win rx tx g0 g1 g2 g3 g4 g5 g6 g7 w
       ·exact OL k0 k1 k2 k3 k4 k5 name cap gQ blk win rx tx g0 g1 g2 g3 g4 g5 g6 w
      ·exact P_ k0 k1 k2 k3 k4 k5 name cap gQ blk win rx tx g0 g1 g2 g3 g4 g5 w
     ·exact OC k0 k1 k2 k3 k4 k5 name cap gQ blk win rx tx g0 g1 g2 g3 g4 w
    ·exact PW k0 k1 k2 k3 k4 k5 name cap gQ blk win rx tx g0 g1 g2 g3 w
  ·exact PV k0 k1 k2 k3 k4 k5 name cap gQ blk win rx tx g0 g1 w
theorem Hr(k0 k1 k2 k3 k4 k5:UInt8)(name:ByteArray)(cap:Int)(gQ:ByteArray)(blk win rx tx:Int)(hg: ¬(qg.mk k0 k1 k2 k3 k4 k5 name cap gQ blk win rx tx).Good)(w:fV):f_ Vh 30 #[.agg (rM k0.toNat k1.toNat k2.toNat k3.toNat k4.toNat k5.toNat name cap gQ blk win rx tx)] w fun e w'=>e=.returned (.tuple #[.pointer none,.int .i64 8])/\gm w.heap.size w w':=by
 have HM:=fun u=>gu (NS k0 k1 k2 k3 k4 k5 name cap gQ blk win rx tx hg u)
 clear hg
 go_enter func30,ntmps30
 go_wp2_with fail
 refine(gB (HM _)).mono ?_
 rintro ee u ⟨rfl,hb⟩
 have HB:=gu hb
 clear hb HM
 go_wp2
 go_ret2
 exact⟨rfl,((R9 w.heap.size w).alloc (ai _) _).trans (HB.mono (by simp))⟩
theorem H_(k0 k1 k2 k3 k4 k5:UInt8)(name:ByteArray)(cap:Int)(gQ:ByteArray)(blk win rx tx:Int)(hg: ¬(qg.mk k0 k1 k2 k3 k4 k5 name cap gQ blk win rx tx).Good)(w:fV):f_ Vh 15 #[.agg (rM k0.toNat k1.toNat k2.toNat k3.toNat k4.toNat k5.toNat name cap gQ blk win rx tx)] w fun e w'=>e=.returned (.tuple #[.pointer none,.int .i64 8])/\gm w.heap.size w w':=by
 have HM:=fun u=>gu (Hr k0 k1 k2 k3 k4 k5 name cap gQ blk win rx tx hg u)
 clear hg
 go_enter func15,ntmps15
 go_wp2_with fail
 refine(gB (HM _)).mono ?_
 rintro ee u ⟨rfl,hb⟩
 have HB:=gu hb
 clear hb HM
 go_wp2
 go_ret2
 exact⟨rfl,((R9 w.heap.size w).alloc (ai _) _).trans (HB.mono (by simp))⟩
end Js
namespace Ref
open Bs Js
variable{w0:fV} {P:Nat→Prop} {w w':fV} {G:Nat} {r r':Rf}
theorem AZ(h:Rm w0 P w G r)(hl:r.gK<4)(hc:r.cv=.slice none 0 0)(hi:r.iv=.slice none 0 0):f_ Vh 26 #[p_ G] w fun ee w'=>ee=.returned (.agg (rK r.now r.gK r.phase 0 r.gZ 0 r.lost 0))/\gm w.heap.size w w':=by
 have c16:=h.c16
 have kF:=h.kF
 have c34:=h.c34
 have c18:=h.c18
 have RL:=h.RL
 have c19:=h.c19
 have c21:=h.c21
 rw[hc]at c21
 rw[hi]at RL
 have hne:G≠w.heap.size:=aB h.lt
 have HA:=gu (jW (h.alloc (.cells zK_ 69)).drew hl)
 have hlt:=h.lt
 clear h
 go_enter func26,ntmps26
 go_wp2
 go_region_held3 (fun u=>u.cell? (a_ G 16)=some (.int .i64 r.now)/\u.cell? (a_ G 22)=some (.int .i64 r.gK)/\u.cell? (a_ G 34)=some (.int .i64 r.phase)/\u.cell? (a_ G 18)=some (.int .i64 r.gZ)/\u.cell? (a_ G 45)=some (.slice none 0 0)/\u.cell? (a_ G 19)=some (.int .i64 r.lost)/\u.cell? (a_ G 21)=some (.slice none 0 0)) (go_keep)
  (first|(go_at_call 46;refine HA.mono ?_;rintro ee u ⟨rfl,rfl⟩))
 go_wp2
 go_returns
 exact⟨rfl,((R9 _ _).alloc (ai _) _).drew⟩
end Ref
end Go.Proofs.YtbhbbeebncmaiaaGreatDoor
