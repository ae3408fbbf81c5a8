import Derived.Test.YtdgacidndknceaaGreatDoorMg32
import Derived.Test.YtdgacidndknceaaGreatDoorMg38
set_option linter.all false
set_option maxHeartbeats 1000000
open Go.ChangeShapes Go.WideShapes Go.ChangeAt Go.RowKit
open Go renaming Calls → f_
open Go.Proofs.Tryz renaming prog → Vh
open Go.Proofs.Tryz
namespace Go.Proofs.YtdgacidndknceaaGreatDoor
namespace Js
open Bs
variable{w0:World} {P:Nat→Prop} {w w':World} {B:Nat} {m m':Mc}
theorem Y0(h:Mx w0 P w B m)(hst:m.st=3)(hn:wrap64 (m.gr+2)<=m.now)(m':Mc)
  (HN:∀u,Mx w0 P u B {m with st:=4}->f_ Vh 89 #[p_ B] u fun ee w'=>ee=.returned (.tuple #[])/\Mx w0 P w' B m'):
  f_ Vh 50 #[p_ B] w fun ee w'=>ee=.returned (.tuple #[])/\Mx w0 P w' B m':=by
 obtain⟨N,hN⟩:∃N,N=wrap64 (m.gr+2):=⟨_,rfl⟩
 have hw:IntKind.i64.wrap (m.gr+2)=N:=by rw[hN,wrapM]
 rw[<-hN]at hn
 have HM:=M0 h
 have HNN:=M0 HN
 have nk:=h.nk
 have f25:=h.free 25
 rw[hst]at nk
 have c14:=h.c14
 have c31:=h.c31
 have hgd:decide (N<=m.now)=true:=by simpa using hn
 clear h hN hst HN
 go_enter func50,ntmps50
 go_wp2
 go_quiet (fail)
 go_wp2_with fail
 refine bE (HNN _ ?_) ?_
 ·exact(HM.TN 4).like ⟨rfl,rfl,rfl,rfl⟩
 rintro ee u ⟨rfl,h7⟩
 have H7:=M0 h7
 clear h7 HM HNN
 go_wp2
 go_end0
 exact⟨rfl,H7⟩
theorem ae1(h:Mx w0 P w B m)(s t:Int)(f:Nat)(hn:m.now<t):f_ Vh 87 #[p_ B,.agg #[.int .i64 s,.int .i64 t],.func (.func f) #[] #[]] w fun ee w'=>ee=.returned (.tuple #[])/\Mx w0 P w' B m:=by
 have HM:=M0 (h.alloc (.cells #[.int .i64 s,.int .i64 t] 107))
 have c14:=h.c14
 have hlt:=h.lt
 have hB:B≠w.heap.size:=eG hlt
 clear h
 go_enter func87,ntmps87
 go_wp2
 go_quiet (fail)
 go_wp2
 go_end0
 exact⟨rfl,HM.like ⟨rfl,rfl,rfl,rfl⟩⟩
theorem Zv(h:Mx w0 P w B m)(hf:m.lK=true)(hn:m.now<m.fu):f_ Vh 51 #[p_ B] w fun ee w'=>ee=.returned (.tuple #[])/\Mx w0 P w' B m:=by
 have HI:=W9 h
 rw[hf]at HI
 have HII:=M0 HI
 have HW:Hid (∀u,Mx w0 P u B m->f_ Vh 87 #[p_ B,.agg #[.int .i64 m.fs,.int .i64 m.fu],.func (.func 92) #[] #[]] u fun ee w'=>ee=.returned (.tuple #[])/\Mx w0 P w' B m):=M0 (fun u hu=>ae1 hu _ _ _ hn)
 have HM:=M0 h
 have UC:=h.UC
 have c51:=h.c51
 clear h HI
 go_enter func51,ntmps51
 go_wp2_with fail
 refine HII.mono ?_
 rintro ee u ⟨rfl,rfl⟩
 go_wp2_with fail
 refine(HW _ HM).mono ?_
 rintro ee u2 ⟨rfl,h7⟩
 have H7:=M0 h7
 clear h7 HM HW
 go_wp2
 go_end0
 exact⟨rfl,H7⟩
theorem tH(h:Mx w0 P w B m)(d:Int)(hend:(m.clock d).ended=false)(hcd:m.cd=.map [])(m1 m2:Mc)
  (HL:∀u,Mx w0 P u B (m.clock d)->f_ Vh 50 #[p_ B] u fun ee w'=>ee=.returned (.tuple #[])/\Mx w0 P w' B m1)
  (HI:∀u,Mx w0 P u B m1->f_ Vh 51 #[p_ B] u fun ee w'=>ee=.returned (.tuple #[])/\Mx w0 P w' B m2):
  f_ Vh 29 #[p_ B,.int .u32 d] w fun ee w'=>ee=.returned (.tuple #[])/\Mx w0 P w' B m2:=by
 have c14:=h.c14
 have f14:=h.free 14
 have c15:=h.c15
 have f15:=h.free 15
 have HM:Hid (Mx w0 P ((w.setCell (a_ B 14) (.int .i64 (wrap64 (m.now+1)))).setCell (a_ B 15) (.int .u32 d)) B (m.clock d)):=M0 ((h.TW _).s15 _)
 have HLL:=M0 HL
 have HII:=M0 HI
 have HC:Hid ((m.clock d).cd=.map []):=M0 hcd
 have HE:=M0 (t_ HM)
 rw[hend]at HE
 clear h HL HI hcd hend
 go_enter func29,ntmps29
 go_wp2_with fail
 refine HE.mono ?_
 rintro ee u ⟨rfl,rfl⟩
 go_wp2_with fail
 refine(sO HM HC).mono ?_
 rintro ee u1 ⟨rfl,h1⟩
 have H1:=M0 h1
 clear h1 HM HE c14 c15 f14 f15
 go_wp2_with fail
 refine(HLL _ H1).mono ?_
 rintro ee u2 ⟨rfl,h2⟩
 have H2:=M0 h2
 clear h2 H1 HLL
 go_wp2_with fail
 refine(HII _ H2).mono ?_
 rintro ee u3 ⟨rfl,h3⟩
 have H3:=M0 h3
 clear h3 H2 HII
 go_wp2
 go_end0
 exact⟨rfl,H3⟩
end Js
namespace Js
open Bs
variable{w0:World} {P:Nat→Prop} {w w':World} {B Q:Nat} {m m':Mc}
theorem ax7(h:Mx w0 P w B m)(s:ByteArray)(hq:m.cq=[s])(hend:m.ended=false)(Z:Mc->Prop)(hZ:∀mz,Z mz->mz.cq=[])
  (HF:∀u,Mx w0 P u B m.jP->f_ Vh 54 #[p_ B,.string s] u fun ee w'=>ee=.returned (.tuple #[])/\∃mz,Z mz/\Mx w0 P w' B mz):
  f_ Vh 31 #[p_ B,.int .i64 2] w fun ee w'=>ee=.returned (.int .i64 1)/\∃mz,Z mz/\Mx w0 P w' B mz:=by
 have HM:=M0 h
 have HFF:=M0 HF
 have HZZ:=M0 hZ
 have HN:=M0 (AU h)
 have hhead:kW m.cq=s:=by rw[hq];rfl
 have hne:(!m.cq.isEmpty)=true:=by rw[hq];rfl
 have hen1:m.jP.ended=false:=by
  have:m.jP.ended=m.ended:=by unfold Mc.jP;rw[hq];rfl
  rw[this];exact hend
 rw[hhead,hne]at HN
 have HEN:=M0 hen1
 clear h HF hZ hhead hne hen1 hend hq
 go_enter func31,ntmps31
 go_wp2
 refine Vz 3 ?_
 rw[Vs]
 go_wp2_with fail
 refine HN.mono ?_
 rintro ee u ⟨rfl,hu⟩
 have HU:=M0 hu
 clear hu HN HM
 have HE:=M0 (t_ HU)
 rw[gB HEN]at HE
 go_wp2_with fail
 refine HE.mono ?_
 rintro ee u2 ⟨rfl,rfl⟩
 go_wp2_with fail
 refine(HFF _ HU).mono ?_
 rintro ee u3 ⟨rfl,mz,hz,hu3⟩
 have HZ3:=M0 hz
 have HU3:=M0 hu3
 have hcq:=HZZ mz hz
 have HN3:=M0 (AU hu3)
 have hhead:kW mz.cq=⟨#[]⟩:=by rw[hcq];rfl
 have hne:(!mz.cq.isEmpty)=false:=by rw[hcq];rfl
 have hg1:mz.jP=mz:=by unfold Mc.jP;rw[hcq]
 rw[hhead,hne,hg1]at HN3
 clear hz hu3 hhead hne hg1 hcq HE HU HFF HZZ
 go_wp2
 rw[Vs]
 go_wp2_with fail
 refine HN3.mono ?_
 rintro ee u4 ⟨rfl,hu4⟩
 have HU4:=M0 hu4
 clear hu4 HN3
 go_wp2
 go_ret
 exact⟨rfl,mz,HZ3,HU4⟩
theorem ae6(h:Bx w0 P w Q B m)(Z:Mc->Prop)
  (HT:f_ Vh 31 #[p_ B,.int .i64 2] w fun ee w'=>ee=.returned (.int .i64 1)/\∃mz,Z mz/\Mx w (iq B m) w' B mz):
  f_ Vh 17 #[p_ Q,.int .i64 2] w fun ee w'=>ee=.returned (.int .i64 1)/\∃mz,Z mz/\Bx w0 P w' Q B mz:=by
 have HM:=M0 (kP h)
 have HTT:=M0 HT
 have HB:=M0 h
 clear h HT
 go_enter func17,ntmps17
 go_wp2_with fail
 refine HM.mono ?_
 rintro ee u ⟨rfl,rfl⟩
 go_wp2_with fail
 refine HTT.mono ?_
 rintro ee u ⟨rfl,mz,hz,hu⟩
 have HZ:=M0 hz
 have HU:=M0 (HB.next hu)
 clear hu HTT HM HB hz
 go_wp2
 go_ret
 exact⟨rfl,mz,HZ,HU⟩
theorem ad5(h:Bx w0 P w Q B m)(d:Int)(Z:Mc->Prop)
  (HT:f_ Vh 29 #[p_ B,.int .u32 d] w fun ee w'=>ee=.returned (.tuple #[])/\∃mz,Z mz/\Mx w (iq B m) w' B mz):
  f_ Vh 15 #[p_ Q,.int .u32 d] w fun ee w'=>ee=.returned (.tuple #[])/\∃mz,Z mz/\Bx w0 P w' Q B mz:=by
 have HM:=M0 (kP h)
 have HTT:=M0 HT
 have HB:=M0 h
 clear h HT
 go_enter func15,ntmps15
 go_wp2_with fail
 refine HM.mono ?_
 rintro ee u ⟨rfl,rfl⟩
 go_wp2_with fail
 refine HTT.mono ?_
 rintro ee u ⟨rfl,mz,hz,hu⟩
 have HZ:=M0 hz
 have HU:=M0 (HB.next hu)
 clear hu HTT HM HB hz
 go_wp2
 go_end0
 exact⟨rfl,mz,HZ,HU⟩
end Js
end Go.Proofs.YtdgacidndknceaaGreatDoor
