import Derived.Test.YtdgacidndknceaaGreatDoorMg21
import Derived.Handy
set_option linter.all false
set_option maxHeartbeats 1000000
open Go.ChangeShapes Go.WideShapes Go.ChangeAt Go.RowKit
open Go renaming World → fV, Calls → f_
open Go.RowKit renaming Below → gm
open Go.Proofs.Tryz renaming prog → Vh
open Go.Value renaming int → Vb
open Go.IntKind renaming u8 → Vd, u16 → Ve, u32 → Vf, i64 → Vg
open Go.Proofs.Tryz
namespace Go.Proofs.YtdgacidndknceaaGreatDoor
namespace yJ
open Bs Rd Dh
open gP (gD jE jk)
theorem Ep(B:Nat)(l:List UInt8)(w:fV)(h:iL w B l)(hn:l.length<4)(hs:l.length<=maxLen):
  f_ Vh 148 #[p_ B] w fun e w'=>e=.panicked (iH 1)/\w.grownBy w' (some B):=by
 by_cases h2:l.length<2
 ·have HN:=M0 (DV B l w h h2)
  clear h hs
  go_enter func148,ntmps148
  go_wp2_with fail
  refine HN.mono ?_
  rintro e w1 ⟨rfl,rfl⟩
  exact⟨rfl,rfl,il _ _⟩
 ·obtain⟨a,b,r,rfl⟩:∃a b r,l=a::b::r:=by
   match l,h2 with
   |[],h=>simp at h
   |[_],h=>simp at h
   |a::b::r,_=>exact⟨a,b,r,rfl⟩
  have hr:r.length<2:=by simp only[aj]at hn;omega
  have HN:=M0 (jo B a b r w h hs)
  have HM:=M0 (fun u hu=>DV B r u hu hr)
  clear h hs hn h2
  go_enter func148,ntmps148
  go_wp2_with fail
  refine HN.mono ?_
  rintro e w1 ⟨rfl,h1,g1⟩
  have H1:=M0 h1
  have G1:=M0 g1
  clear h1 g1
  go_wp2_with fail
  refine(HM _ H1).mono ?_
  rintro e w2 ⟨rfl,rfl⟩
  exact⟨rfl,rfl,G1⟩
theorem yA(B:Nat)(l:List UInt8)(w:fV)(h:iL w B l)(hn:l.length<4)(hs:l.length<=maxLen):
  f_ Vh 110 #[p_ B] w fun e w'=>e=.panicked (iH 1)/\w.grownBy w' (some B):=by
 have HN:=M0 (Ep B l w h hn hs)
 clear h hs hn
 go_enter func110,ntmps110
 go_wp2_with fail
 refine HN.mono ?_
 rintro e w1 ⟨rfl,g1⟩
 exact⟨rfl,rfl,g1⟩
theorem N9(B:Nat)(l:List UInt8)(w:fV)(h:iL w B l)(hn:l.length<1)(hs:l.length<=maxLen):
  f_ Vh 109 #[p_ B] w fun e w'=>e=.panicked (iH 1)/\w.grownBy w' (some B):=by
 obtain rfl:l=[]:=by cases l with|nil=>rfl|cons a r=>simp at hn
 refine(Du B w h).mono ?_
 rintro e w' ⟨rfl,rfl⟩
 exact⟨rfl,il _ _⟩
theorem iG(w:fV)(B:Nat)(s:ByteArray)(h:B=w.heap.size):iL (w.alloc (.cells #[.string s] 166)) B s.data.toList:=gP.iG w B s h
theorem xm(x:UInt8)(r:List UInt8):(⟨(x::r).toArray⟩:ByteArray).toList.isEmpty=false:=by
 rw[Vw];rfl
theorem E9(l:List UInt8)(h: ¬l.length<1)(h2:l.length≠1):∃a x r,l=a::x::r:=by
 match l,h,h2 with
 |[],h,_=>simp at h
 |[_],_,h=>simp at h
 |a::x::r,_,_=>exact⟨a,x,r,rfl⟩
theorem Qt(l:List UInt8)(h: ¬l.length<4)(h2:l.length≠4):∃a b c d x r,l=a::b::c::d::x::r:=by
 match l,h,h2 with
 |[],h,_=>simp at h
 |[_],h,_=>simp at h
 |[_,_],h,_=>simp at h
 |[_,_,_],h,_=>simp at h
 |[_,_,_,_],_,h=>simp at h
 |a::b::c::d::x::r,_,_=>exact⟨a,b,c,d,x,r,rfl⟩
theorem xL(p:Addr)(y k:Int)(older:List PanicEntry)(w:fV)(hc:w.cell? p=some (Vb Vg y))(hz:w.frozen? p=false):
  CallsD Vh 287 #[.pointer (some p)] (.panicking ({v:=.iface 26 (Vb Vg k),recovered:=false}::older)) w fun e u' w'=>
   e=.returned (.tuple #[])/\u'=.panicking ({v:=.iface 26 (Vb Vg k),recovered:=true}::older)/\w'=w.setCell p (Vb Vg k):=by
 refine VE func287 rfl fun c₀ cs hu=> ?_
 apply VV
 apply VM
 simp[wpOpsS,go_sem,recoverD,hu,ntmps287,Exit.thenS]
 refine VP ?_
 change Code.wp _ _ _ {tmps:=#[.pointer (some p),.iface 26 (Vb Vg k),.iface 26 (Vb Vg k),undef,undef,undef,undef],defers:=[]} _
 have hta:=fun u=>jE k u
 go_wp2
 exact⟨rfl,_,rfl,.tuple #[],by simp[results,results287],rfl,rfl,rfl⟩
theorem EW(p:Addr)(w:fV):
  CallsD Vh 287 #[.pointer (some p)] .returning w fun e u' w'=>e=.returned (.tuple #[])/\u'=.returning/\w'=w:=by
 refine VE func287 rfl fun c₀ cs hu=> ?_
 apply VV
 apply VM
 simp[wpOpsS,go_sem,recoverD,hu,ntmps287,Exit.thenS]
 refine VP ?_
 change Code.wp _ _ _ {tmps:=#[.pointer (some p),.nilIface,.nilIface,undef,undef,undef,undef],defers:=[]} _
 go_wp2
 cases c₀
 simp_all[bodyPostS,results,results287]
theorem FD(B X:Nat)(a:UInt8)(u:fV)(h:iL u B ([a]))(hX:u.cell? (a_ X 0)=some (.func (.func 109) #[] #[])):
  f_ Vh 262 #[p_ B,p_ X] u fun e w'=>e=.returned (Vb Vd a.toNat)/\u.grownBy w' (some B):=by
 have HN:=M0 (ky B a [] u h (by simp[maxLen]))
 have HT:=fun u=>M0 (oo 2 u)
 clear h
 go_enter func262,ntmps262
 go_wp2_with fail
 refine HN.mono ?_
 rintro e w1 ⟨rfl,h1,g1⟩
 have c1:w1.cell? (a_ B 0)=some (.string ⟨#[]⟩):=Vm h1
 have G1:=M0 g1
 clear h1 g1
 go_wp2_with fail
 refine(gB (HT _)).mono ?_
 rintro e w2 ⟨rfl,rfl⟩
 go_wp2
 go_ret
 exact⟨rfl,G1⟩
theorem Eh(B X:Nat)(l:List UInt8)(u:fV)(h:iL u B l)(hl:l.length≠1)(hs:l.length<=maxLen)(hX:u.cell? (a_ X 0)=some (.func (.func 109) #[] #[])):
  f_ Vh 262 #[p_ B,p_ X] u fun e w'=>(∃k,(k=1∨k=2)/\e=.panicked (iH k))/\u.grownBy w' (some B):=by
 by_cases hn:l.length<1
 ·have HN:=M0 (N9 B l u h hn hs)
  clear h hl
  go_enter func262,ntmps262
  go_wp2_with fail
  refine HN.mono ?_
  rintro e w1 ⟨rfl,g1⟩
  exact⟨rfl,⟨1,au rfl,rfl⟩,g1⟩
 ·obtain⟨a,x,r,rfl⟩:∃a x r,l=a::x::r:=E9 l hn hl
  have HN:=M0 (ky B a (x::r) u h hs)
  have HT:=fun u=>M0 (om 2 u)
  clear h hl hn hs
  go_enter func262,ntmps262
  go_wp2_with fail
  refine HN.mono ?_
  rintro e w1 ⟨rfl,h1,g1⟩
  have c1:w1.cell? (a_ B 0)=some (.string ⟨(x::r).toArray⟩):=Vm h1
  have hne:(⟨(x::r).toArray⟩:ByteArray).toList.isEmpty=false:=xm x r
  obtain⟨y,hy⟩:∃y:ByteArray,y=⟨(x::r).toArray⟩:=⟨_,rfl⟩
  rw[<-hy]at c1 hne
  have G1:=M0 g1
  clear h1 g1 hy
  go_wp2_with fail
  refine(gB (HT _)).mono ?_
  rintro e w2 ⟨rfl,rfl⟩
  exact⟨rfl,⟨2,aA rfl,rfl⟩,G1⟩
theorem JI{w w1 W:fV}{s:ByteArray}(g:W.grownBy w1 (some (w.heap.size+1)))(hW:W=(w.alloc (.cells #[Vb Vg 0] 26)).alloc (.cells #[.string s] 166)):
  w1.heap[w.heap.size]?=some (.cells #[Vb Vg 0] 26 (0,0)):=by
 have e1:W.heap[w.heap.size]?=some (.cells #[Vb Vg 0] 26 (0,0)):=by
  rw[hW,Vi _ _ _ (by simp)];exact G8 w _
 exact(g.block _ (Vj e1) (fun q=>by simp at q)).trans e1
theorem MF(s:ByteArray)(X:Nat)(w:fV)(hX:w.cell? (a_ X 0)=some (.func (.func 109) #[] #[]))(hl:s.data.toList.length≠1)(hs:s.data.toList.length<=maxLen):
  f_ Vh 261 #[.string s,.func (.func 262) #[] #[p_ X]] w fun ee w'=>(∃k,(k=1∨k=2)/\ee=.returned (.tuple #[Vb Vd 0,Vb Vg k]))/\gm w.heap.size w w':=by
 have hmf:∀(fn:Fn) (first cap:Array Value) (w:fV),(Instr.makeFunc fn first cap).run Vh w=.ok (.func fn first cap) w:=fun _ _ _ _=>rfl
 have hXl:X<w.heap.size:=aH w _ hX
 have HR:=M0 (Eh (w.heap.size+1) X s.data.toList ((w.alloc (.cells #[Vb Vg 0] 26)).alloc (.cells #[.string s] 166)) (iG _ _ s (by simp)) hl hs ((Vk ((Vi _ _ _ (by simp;omega)).trans (Vi _ _ _ hXl))).trans hX))
 clear hX hl hs hXl
 go_enter_defers func261,ntmps261
 go_wp2_with fail
 refine HR.mono ?_
 rintro ee w1 ⟨⟨k,hk,rfl⟩,g1⟩
 have he:=JI g1 rfl
 have hc:=Vm he
 have hf:=Vy he
 refine VF (f:=287) (args:=#[p_ w.heap.size]) (by simp) (by simp[go_sem]) ?_
 refine(xL (a_ w.heap.size 0) 0 k [] _ hc hf).mono ?_
 rintro e u' w'' ⟨rfl,rfl,rfl⟩
 simp[Leaves,settle,results,results261,go_sem,hc]
 exact⟨hk,(jk g1 (((R9 _ w).alloc (ai _) _).alloc (by simp) _) (by omega)).setCell (by simp) _⟩
theorem Ng(s:ByteArray)(X:Nat)(a:UInt8)(w:fV)(hX:w.cell? (a_ X 0)=some (.func (.func 109) #[] #[]))(hl:s.data.toList=[a]):
  f_ Vh 261 #[.string s,.func (.func 262) #[] #[p_ X]] w fun ee w'=>ee=.returned (.tuple #[Vb Vd a.toNat,Vb Vg 0])/\gm w.heap.size w w':=by
 have hmf:∀(fn:Fn) (first cap:Array Value) (w:fV),(Instr.makeFunc fn first cap).run Vh w=.ok (.func fn first cap) w:=fun _ _ _ _=>rfl
 have hXl:X<w.heap.size:=aH w _ hX
 have HR:=M0 (FD (w.heap.size+1) X a ((w.alloc (.cells #[Vb Vg 0] 26)).alloc (.cells #[.string s] 166)) (by have q:=iG (w.alloc (.cells #[Vb Vg 0] 26)) (w.heap.size+1) s (by simp);rw[hl]at q;exact q) ((Vk ((Vi _ _ _ (by simp;omega)).trans (Vi _ _ _ hXl))).trans hX))
 obtain⟨v,hv⟩:∃v:Int,v=a.toNat:=⟨_,rfl⟩
 rw[<-hv]at HR ⊢
 clear hX hl hXl hv
 go_enter_defers func261,ntmps261
 go_wp2_with fail
 refine HR.mono ?_
 rintro ee w1 ⟨rfl,g1⟩
 have he:=JI g1 rfl
 have hc:=Vm he
 have hf:=Vy he
 have HB:=M0 (jk g1 (((R9 _ w).alloc (ai _) _).alloc (by simp) _) (by omega))
 have hs2:=Vm (VR (u:=Vb Vg 0) he)
 clear g1 he HR
 go_wp2
 refine VF (f:=287) (args:=#[p_ w.heap.size]) (by simp) (by simp[go_sem]) ?_
 refine(EW (a_ w.heap.size 0) _).mono ?_
 rintro e u' w'' ⟨rfl,rfl,rfl⟩
 simp[Leaves,settle,results,results261,go_sem,hs2]
 exact HB.setCell (by simp) _
theorem Ku(a0:Option Addr)(cap:Nat)(os:gU)(cd:UInt8)(a:UInt8)(w:fV)(hA:At w a0 os)(hl:heavy os<=268435456)(hd:data os cd=[a]):
  f_ Vh 242 #[.slice a0 os.length cap,Vb Vd cd.toNat,(.func (.func 109) #[] #[])] w fun ee w'=>ee=.returned (.tuple #[Vb Vd a.toNat,.bool true])/\gm w.heap.size w w':=by
 have hmf:∀(fn:Fn) (first cap:Array Value) (w:fV),(Instr.makeFunc fn first cap).run Vh w=.ok (.func fn first cap) w:=fun _ _ _ _=>rfl
 have HD:=M0 (nN a0 cap os cd (w.alloc (.cells #[(.func (.func 109) #[] #[])] 242)) (hA.below ((R9 w.heap.size w).alloc (ai _) _) (ai _)) hl)
 rw[hd]at HD
 have HR:=fun(u:fV) hX=>M0 (Ng ⟨([a]:List UInt8).toArray⟩ w.heap.size a u hX rfl)
 obtain⟨v,hv⟩:∃v:Int,v=a.toNat:=⟨_,rfl⟩
 obtain⟨s,hs⟩:∃s:ByteArray,s=⟨([a]:List UInt8).toArray⟩:=⟨_,rfl⟩
 rw[<-hv,<-hs]at HR
 rw[<-hs]at HD
 rw[<-hv]
 clear hA hl hd hv hs
 go_enter func242,ntmps242
 go_wp2_with fail
 refine HD.mono ?_
 rintro ee u1 ⟨rfl,hb1⟩
 have hx:u1.cell? (a_ w.heap.size 0)=some (.func (.func 109) #[] #[]):=(hb1.cell (p:=(a_ w.heap.size 0)) (by simp)).trans (dh _ _ 0 _ _ _ (G8 w _))
 have HB1:=M0 (((R9 w.heap.size w).alloc (ai _) _).trans (hb1.mono (by simp)))
 have HRR:=M0 (gB (HR u1 hx))
 clear hb1 HD HR hx
 go_wp2_with fail
 refine HRR.mono ?_
 rintro ee u2 ⟨rfl,hb2⟩
 have HB2:=M0 (HB1.trans (hb2.mono HB1.size))
 clear hb2 HRR
 go_wp2
 go_returns
 exact⟨rfl,HB2⟩
theorem J8(a0:Option Addr)(cap:Nat)(os:gU)(cd:UInt8)(w:fV)(hA:At w a0 os)(hl:heavy os<=268435456)(hd:(data os cd).length≠1):
  f_ Vh 242 #[.slice a0 os.length cap,Vb Vd cd.toNat,(.func (.func 109) #[] #[])] w fun ee w'=>ee=.returned (.tuple #[Vb Vd 0,.bool false])/\gm w.heap.size w w':=by
 have hmf:∀(fn:Fn) (first cap:Array Value) (w:fV),(Instr.makeFunc fn first cap).run Vh w=.ok (.func fn first cap) w:=fun _ _ _ _=>rfl
 have HD:=M0 (nN a0 cap os cd (w.alloc (.cells #[(.func (.func 109) #[] #[])] 242)) (hA.below ((R9 w.heap.size w).alloc (ai _) _) (ai _)) hl)
 have hlen:(data os cd).length<=maxLen:=by have:=vL os cd;unfold maxLen;omega
 have HR:=fun(u:fV) hX=>M0 (MF ⟨(data os cd).toArray⟩ w.heap.size u hX (by simpa using hd) (by simpa using hlen))
 obtain⟨s,hs⟩:∃s:ByteArray,s=⟨(data os cd).toArray⟩:=⟨_,rfl⟩
 rw[<-hs]at HR HD
 clear hA hl hd hs hlen
 go_enter func242,ntmps242
 go_wp2_with fail
 refine HD.mono ?_
 rintro ee u1 ⟨rfl,hb1⟩
 have hx:u1.cell? (a_ w.heap.size 0)=some (.func (.func 109) #[] #[]):=(hb1.cell (p:=(a_ w.heap.size 0)) (by simp)).trans (dh _ _ 0 _ _ _ (G8 w _))
 have HB1:=M0 (((R9 w.heap.size w).alloc (ai _) _).trans (hb1.mono (by simp)))
 have HRR:=M0 (gB (HR u1 hx))
 clear hb1 HD HR hx
 go_wp2_with fail
 refine HRR.mono ?_
 rintro ee u2 ⟨⟨k,hk,rfl⟩,hb2⟩
 have HB2:=M0 (HB1.trans (hb2.mono HB1.size))
 have hk2:(k==0)=false:=by rcases hk with rfl|rfl<;>rfl
 clear hb2 HRR hk
 go_wp2
 go_returns
 exact⟨rfl,HB2⟩
theorem PH(a0:Option Addr)(cap:Nat)(os:gU)(cd:UInt8)(a:UInt8)(w:fV)(hA:At w a0 os)(hl:heavy os<=268435456)(hd:data os cd=[a]):
  f_ Vh 218 #[.slice a0 os.length cap,Vb Vd cd.toNat] w fun ee w'=>ee=.returned (.tuple #[Vb Vd a.toNat,.bool true])/\gm w.heap.size w w':=by
 have HW:=M0 (Ku a0 cap os cd a w hA hl hd)
 obtain⟨v,hv⟩:∃v:Int,v=a.toNat:=⟨_,rfl⟩
 rw[<-hv]at HW ⊢
 clear hv
 clear hA hl hd
 go_enter func218,ntmps218
 go_wp2_with fail
 refine HW.mono ?_
 rintro ee u1 ⟨rfl,hb1⟩
 have HB1:=M0 hb1
 clear hb1 HW
 go_wp2
 go_returns
 exact⟨rfl,HB1⟩
theorem OZ(a0:Option Addr)(cap:Nat)(os:gU)(cd:UInt8)(w:fV)(hA:At w a0 os)(hl:heavy os<=268435456)(hd:(data os cd).length≠1):
  f_ Vh 218 #[.slice a0 os.length cap,Vb Vd cd.toNat] w fun ee w'=>ee=.returned (.tuple #[Vb Vd 0,.bool false])/\gm w.heap.size w w':=by
 have HW:=M0 (J8 a0 cap os cd w hA hl hd)
 clear hA hl hd
 go_enter func218,ntmps218
 go_wp2_with fail
 refine HW.mono ?_
 rintro ee u1 ⟨rfl,hb1⟩
 have HB1:=M0 hb1
 clear hb1 HW
 go_wp2
 go_returns
 exact⟨rfl,HB1⟩
theorem qf(p:Addr)(y k:Int)(older:List PanicEntry)(w:fV)(hc:w.cell? p=some (Vb Vg y))(hz:w.frozen? p=false):
  CallsD Vh 288 #[.pointer (some p)] (.panicking ({v:=.iface 26 (Vb Vg k),recovered:=false}::older)) w fun e u' w'=>
   e=.returned (.tuple #[])/\u'=.panicking ({v:=.iface 26 (Vb Vg k),recovered:=true}::older)/\w'=w.setCell p (Vb Vg k):=by
 refine VE func288 rfl fun c₀ cs hu=> ?_
 apply VV
 apply VM
 simp[wpOpsS,go_sem,recoverD,hu,ntmps288,Exit.thenS]
 refine VP ?_
 change Code.wp _ _ _ {tmps:=#[.pointer (some p),.iface 26 (Vb Vg k),.iface 26 (Vb Vg k),undef,undef,undef,undef],defers:=[]} _
 have hta:=fun u=>jE k u
 go_wp2
 exact⟨rfl,_,rfl,.tuple #[],by simp[results,results288],rfl,rfl,rfl⟩
theorem yG(p:Addr)(w:fV):
  CallsD Vh 288 #[.pointer (some p)] .returning w fun e u' w'=>e=.returned (.tuple #[])/\u'=.returning/\w'=w:=by
 refine VE func288 rfl fun c₀ cs hu=> ?_
 apply VV
 apply VM
 simp[wpOpsS,go_sem,recoverD,hu,ntmps288,Exit.thenS]
 refine VP ?_
 change Code.wp _ _ _ {tmps:=#[.pointer (some p),.nilIface,.nilIface,undef,undef,undef,undef],defers:=[]} _
 go_wp2
 cases c₀
 simp_all[bodyPostS,results,results288]
theorem FH(B X:Nat)(a b c d:UInt8)(u:fV)(h:iL u B ([a,b,c,d]))(hX:u.cell? (a_ X 0)=some (.func (.func 110) #[] #[])):
  f_ Vh 264 #[p_ B,p_ X] u fun e w'=>e=.returned (Vb Vf (16777216*(a.toNat:Int)+65536*(b.toNat:Int)+256*(c.toNat:Int)+(d.toNat:Int)))/\u.grownBy w' (some B):=by
 have HN:=M0 (jg B a b c d [] u h (by simp[maxLen]))
 have HT:=fun u=>M0 (oo 2 u)
 clear h
 go_enter func264,ntmps264
 go_wp2_with fail
 refine HN.mono ?_
 rintro e w1 ⟨rfl,h1,g1⟩
 have c1:w1.cell? (a_ B 0)=some (.string ⟨#[]⟩):=Vm h1
 have G1:=M0 g1
 clear h1 g1
 go_wp2_with fail
 refine(gB (HT _)).mono ?_
 rintro e w2 ⟨rfl,rfl⟩
 go_wp2
 go_ret
 exact⟨rfl,G1⟩
theorem F6(B X:Nat)(l:List UInt8)(u:fV)(h:iL u B l)(hl:l.length≠4)(hs:l.length<=maxLen)(hX:u.cell? (a_ X 0)=some (.func (.func 110) #[] #[])):
  f_ Vh 264 #[p_ B,p_ X] u fun e w'=>(∃k,(k=1∨k=2)/\e=.panicked (iH k))/\u.grownBy w' (some B):=by
 by_cases hn:l.length<4
 ·have HN:=M0 (yA B l u h hn hs)
  clear h hl
  go_enter func264,ntmps264
  go_wp2_with fail
  refine HN.mono ?_
  rintro e w1 ⟨rfl,g1⟩
  exact⟨rfl,⟨1,au rfl,rfl⟩,g1⟩
 ·obtain⟨a,b,c,d,x,r,rfl⟩:∃a b c d x r,l=a::b::c::d::x::r:=Qt l hn hl
  have HN:=M0 (jg B a b c d (x::r) u h hs)
  have HT:=fun u=>M0 (om 2 u)
  clear h hl hn hs
  go_enter func264,ntmps264
  go_wp2_with fail
  refine HN.mono ?_
  rintro e w1 ⟨rfl,h1,g1⟩
  have c1:w1.cell? (a_ B 0)=some (.string ⟨(x::r).toArray⟩):=Vm h1
  have hne:(⟨(x::r).toArray⟩:ByteArray).toList.isEmpty=false:=xm x r
  obtain⟨y,hy⟩:∃y:ByteArray,y=⟨(x::r).toArray⟩:=⟨_,rfl⟩
  rw[<-hy]at c1 hne
  have G1:=M0 g1
  clear h1 g1 hy
  go_wp2_with fail
  refine(gB (HT _)).mono ?_
  rintro e w2 ⟨rfl,rfl⟩
  exact⟨rfl,⟨2,aA rfl,rfl⟩,G1⟩
theorem yY{w w1 W:fV}{s:ByteArray}(g:W.grownBy w1 (some (w.heap.size+1)))(hW:W=(w.alloc (.cells #[Vb Vg 0] 26)).alloc (.cells #[.string s] 166)):
  w1.heap[w.heap.size]?=some (.cells #[Vb Vg 0] 26 (0,0)):=by
 have e1:W.heap[w.heap.size]?=some (.cells #[Vb Vg 0] 26 (0,0)):=by
  rw[hW,Vi _ _ _ (by simp)];exact G8 w _
 exact(g.block _ (Vj e1) (fun q=>by simp at q)).trans e1
theorem LH(s:ByteArray)(X:Nat)(w:fV)(hX:w.cell? (a_ X 0)=some (.func (.func 110) #[] #[]))(hl:s.data.toList.length≠4)(hs:s.data.toList.length<=maxLen):
  f_ Vh 263 #[.string s,.func (.func 264) #[] #[p_ X]] w fun ee w'=>(∃k,(k=1∨k=2)/\ee=.returned (.tuple #[Vb Vf 0,Vb Vg k]))/\gm w.heap.size w w':=by
 have hmf:∀(fn:Fn) (first cap:Array Value) (w:fV),(Instr.makeFunc fn first cap).run Vh w=.ok (.func fn first cap) w:=fun _ _ _ _=>rfl
 have hXl:X<w.heap.size:=aH w _ hX
 have HR:=M0 (F6 (w.heap.size+1) X s.data.toList ((w.alloc (.cells #[Vb Vg 0] 26)).alloc (.cells #[.string s] 166)) (iG _ _ s (by simp)) hl hs ((Vk ((Vi _ _ _ (by simp;omega)).trans (Vi _ _ _ hXl))).trans hX))
 clear hX hl hs hXl
 go_enter_defers func263,ntmps263
 go_wp2_with fail
 refine HR.mono ?_
 rintro ee w1 ⟨⟨k,hk,rfl⟩,g1⟩
 have he:=yY g1 rfl
 have hc:=Vm he
 have hf:=Vy he
 refine VF (f:=288) (args:=#[p_ w.heap.size]) (by simp) (by simp[go_sem]) ?_
 refine(qf (a_ w.heap.size 0) 0 k [] _ hc hf).mono ?_
 rintro e u' w'' ⟨rfl,rfl,rfl⟩
 simp[Leaves,settle,results,results263,go_sem,hc]
 exact⟨hk,(jk g1 (((R9 _ w).alloc (ai _) _).alloc (by simp) _) (by omega)).setCell (by simp) _⟩
theorem Oe(s:ByteArray)(X:Nat)(a b c d:UInt8)(w:fV)(hX:w.cell? (a_ X 0)=some (.func (.func 110) #[] #[]))(hl:s.data.toList=[a,b,c,d]):
  f_ Vh 263 #[.string s,.func (.func 264) #[] #[p_ X]] w fun ee w'=>ee=.returned (.tuple #[Vb Vf (16777216*(a.toNat:Int)+65536*(b.toNat:Int)+256*(c.toNat:Int)+(d.toNat:Int)),Vb Vg 0])/\gm w.heap.size w w':=by
 have hmf:∀(fn:Fn) (first cap:Array Value) (w:fV),(Instr.makeFunc fn first cap).run Vh w=.ok (.func fn first cap) w:=fun _ _ _ _=>rfl
 have hXl:X<w.heap.size:=aH w _ hX
 have HR:=M0 (FH (w.heap.size+1) X a b c d ((w.alloc (.cells #[Vb Vg 0] 26)).alloc (.cells #[.string s] 166)) (by have q:=iG (w.alloc (.cells #[Vb Vg 0] 26)) (w.heap.size+1) s (by simp);rw[hl]at q;exact q) ((Vk ((Vi _ _ _ (by simp;omega)).trans (Vi _ _ _ hXl))).trans hX))
 obtain⟨v,hv⟩:∃v:Int,v=(16777216*(a.toNat:Int)+65536*(b.toNat:Int)+256*(c.toNat:Int)+(d.toNat:Int)):=⟨_,rfl⟩
 rw[<-hv]at HR ⊢
 clear hX hl hXl hv
 go_enter_defers func263,ntmps263
 go_wp2_with fail
 refine HR.mono ?_
 rintro ee w1 ⟨rfl,g1⟩
 have he:=yY g1 rfl
 have hc:=Vm he
 have hf:=Vy he
 have HB:=M0 (jk g1 (((R9 _ w).alloc (ai _) _).alloc (by simp) _) (by omega))
 have hs2:=Vm (VR (u:=Vb Vg 0) he)
 clear g1 he HR
 go_wp2
 refine VF (f:=288) (args:=#[p_ w.heap.size]) (by simp) (by simp[go_sem]) ?_
 refine(yG (a_ w.heap.size 0) _).mono ?_
 rintro e u' w'' ⟨rfl,rfl,rfl⟩
 simp[Leaves,settle,results,results263,go_sem,hs2]
 exact HB.setCell (by simp) _
theorem Kh(a0:Option Addr)(cap:Nat)(os:gU)(cd:UInt8)(a b c d:UInt8)(w:fV)(hA:At w a0 os)(hl:heavy os<=268435456)(hd:data os cd=[a,b,c,d]):
  f_ Vh 243 #[.slice a0 os.length cap,Vb Vd cd.toNat,(.func (.func 110) #[] #[])] w fun ee w'=>ee=.returned (.tuple #[Vb Vf (16777216*(a.toNat:Int)+65536*(b.toNat:Int)+256*(c.toNat:Int)+(d.toNat:Int)),.bool true])/\gm w.heap.size w w':=by
 have hmf:∀(fn:Fn) (first cap:Array Value) (w:fV),(Instr.makeFunc fn first cap).run Vh w=.ok (.func fn first cap) w:=fun _ _ _ _=>rfl
 have HD:=M0 (nN a0 cap os cd (w.alloc (.cells #[(.func (.func 110) #[] #[])] 295)) (hA.below ((R9 w.heap.size w).alloc (ai _) _) (ai _)) hl)
 rw[hd]at HD
 have HR:=fun(u:fV) hX=>M0 (Oe ⟨([a,b,c,d]:List UInt8).toArray⟩ w.heap.size a b c d u hX rfl)
 obtain⟨v,hv⟩:∃v:Int,v=(16777216*(a.toNat:Int)+65536*(b.toNat:Int)+256*(c.toNat:Int)+(d.toNat:Int)):=⟨_,rfl⟩
 obtain⟨s,hs⟩:∃s:ByteArray,s=⟨([a,b,c,d]:List UInt8).toArray⟩:=⟨_,rfl⟩
 rw[<-hv,<-hs]at HR
 rw[<-hs]at HD
 rw[<-hv]
 clear hA hl hd hv hs
 go_enter func243,ntmps243
 go_wp2_with fail
 refine HD.mono ?_
 rintro ee u1 ⟨rfl,hb1⟩
 have hx:u1.cell? (a_ w.heap.size 0)=some (.func (.func 110) #[] #[]):=(hb1.cell (p:=(a_ w.heap.size 0)) (by simp)).trans (dh _ _ 0 _ _ _ (G8 w _))
 have HB1:=M0 (((R9 w.heap.size w).alloc (ai _) _).trans (hb1.mono (by simp)))
 have HRR:=M0 (gB (HR u1 hx))
 clear hb1 HD HR hx
 go_wp2_with fail
 refine HRR.mono ?_
 rintro ee u2 ⟨rfl,hb2⟩
 have HB2:=M0 (HB1.trans (hb2.mono HB1.size))
 clear hb2 HRR
 go_wp2
 go_returns
 exact⟨rfl,HB2⟩
theorem Kt(a0:Option Addr)(cap:Nat)(os:gU)(cd:UInt8)(w:fV)(hA:At w a0 os)(hl:heavy os<=268435456)(hd:(data os cd).length≠4):
  f_ Vh 243 #[.slice a0 os.length cap,Vb Vd cd.toNat,(.func (.func 110) #[] #[])] w fun ee w'=>ee=.returned (.tuple #[Vb Vf 0,.bool false])/\gm w.heap.size w w':=by
 have hmf:∀(fn:Fn) (first cap:Array Value) (w:fV),(Instr.makeFunc fn first cap).run Vh w=.ok (.func fn first cap) w:=fun _ _ _ _=>rfl
 have HD:=M0 (nN a0 cap os cd (w.alloc (.cells #[(.func (.func 110) #[] #[])] 295)) (hA.below ((R9 w.heap.size w).alloc (ai _) _) (ai _)) hl)
 have hlen:(data os cd).length<=maxLen:=by have:=vL os cd;unfold maxLen;omega
 have HR:=fun(u:fV) hX=>M0 (LH ⟨(data os cd).toArray⟩ w.heap.size u hX (by simpa using hd) (by simpa using hlen))
 obtain⟨s,hs⟩:∃s:ByteArray,s=⟨(data os cd).toArray⟩:=⟨_,rfl⟩
 rw[<-hs]at HR HD
 clear hA hl hd hs hlen
 go_enter func243,ntmps243
 go_wp2_with fail
 refine HD.mono ?_
 rintro ee u1 ⟨rfl,hb1⟩
 have hx:u1.cell? (a_ w.heap.size 0)=some (.func (.func 110) #[] #[]):=(hb1.cell (p:=(a_ w.heap.size 0)) (by simp)).trans (dh _ _ 0 _ _ _ (G8 w _))
 have HB1:=M0 (((R9 w.heap.size w).alloc (ai _) _).trans (hb1.mono (by simp)))
 have HRR:=M0 (gB (HR u1 hx))
 clear hb1 HD HR hx
 go_wp2_with fail
 refine HRR.mono ?_
 rintro ee u2 ⟨⟨k,hk,rfl⟩,hb2⟩
 have HB2:=M0 (HB1.trans (hb2.mono HB1.size))
 have hk2:(k==0)=false:=by rcases hk with rfl|rfl<;>rfl
 clear hb2 HRR hk
 go_wp2
 go_returns
 exact⟨rfl,HB2⟩
theorem Je(a0:Option Addr)(cap:Nat)(os:gU)(cd:UInt8)(a b c d:UInt8)(w:fV)(hA:At w a0 os)(hl:heavy os<=268435456)(hd:data os cd=[a,b,c,d]):
  f_ Vh 219 #[.slice a0 os.length cap,Vb Vd cd.toNat] w fun ee w'=>ee=.returned (.tuple #[Vb Vf (16777216*(a.toNat:Int)+65536*(b.toNat:Int)+256*(c.toNat:Int)+(d.toNat:Int)),.bool true])/\gm w.heap.size w w':=by
 have HW:=M0 (Kh a0 cap os cd a b c d w hA hl hd)
 obtain⟨v,hv⟩:∃v:Int,v=(16777216*(a.toNat:Int)+65536*(b.toNat:Int)+256*(c.toNat:Int)+(d.toNat:Int)):=⟨_,rfl⟩
 rw[<-hv]at HW ⊢
 clear hv
 clear hA hl hd
 go_enter func219,ntmps219
 go_wp2_with fail
 refine HW.mono ?_
 rintro ee u1 ⟨rfl,hb1⟩
 have HB1:=M0 hb1
 clear hb1 HW
 go_wp2
 go_returns
 exact⟨rfl,HB1⟩
theorem JB(a0:Option Addr)(cap:Nat)(os:gU)(cd:UInt8)(w:fV)(hA:At w a0 os)(hl:heavy os<=268435456)(hd:(data os cd).length≠4):
  f_ Vh 219 #[.slice a0 os.length cap,Vb Vd cd.toNat] w fun ee w'=>ee=.returned (.tuple #[Vb Vf 0,.bool false])/\gm w.heap.size w w':=by
 have HW:=M0 (Kt a0 cap os cd w hA hl hd)
 clear hA hl hd
 go_enter func219,ntmps219
 go_wp2_with fail
 refine HW.mono ?_
 rintro ee u1 ⟨rfl,hb1⟩
 have HB1:=M0 hb1
 clear hb1 HW
 go_wp2
 go_returns
 exact⟨rfl,HB1⟩
theorem xO(p:Addr)(y k:Int)(older:List PanicEntry)(w:fV)(hc:w.cell? p=some (Vb Vg y))(hz:w.frozen? p=false):
  CallsD Vh 318 #[.pointer (some p)] (.panicking ({v:=.iface 26 (Vb Vg k),recovered:=false}::older)) w fun e u' w'=>
   e=.returned (.tuple #[])/\u'=.panicking ({v:=.iface 26 (Vb Vg k),recovered:=true}::older)/\w'=w.setCell p (Vb Vg k):=by
 refine VE func318 rfl fun c₀ cs hu=> ?_
 apply VV
 apply VM
 simp[wpOpsS,go_sem,recoverD,hu,ntmps318,Exit.thenS]
 refine VP ?_
 change Code.wp _ _ _ {tmps:=#[.pointer (some p),.iface 26 (Vb Vg k),.iface 26 (Vb Vg k),undef,undef,undef,undef],defers:=[]} _
 have hta:=fun u=>jE k u
 go_wp2
 exact⟨rfl,_,rfl,.tuple #[],by simp[results,results318],rfl,rfl,rfl⟩
theorem Fj(p:Addr)(w:fV):
  CallsD Vh 318 #[.pointer (some p)] .returning w fun e u' w'=>e=.returned (.tuple #[])/\u'=.returning/\w'=w:=by
 refine VE func318 rfl fun c₀ cs hu=> ?_
 apply VV
 apply VM
 simp[wpOpsS,go_sem,recoverD,hu,ntmps318,Exit.thenS]
 refine VP ?_
 change Code.wp _ _ _ {tmps:=#[.pointer (some p),.nilIface,.nilIface,undef,undef,undef,undef],defers:=[]} _
 go_wp2
 cases c₀
 simp_all[bodyPostS,results,results318]
theorem Fe(B X:Nat)(a b c d:UInt8)(u:fV)(h:iL u B ([a,b,c,d]))(hX:u.cell? (a_ X 0)=some (.func (.func 148) #[] #[])):
  f_ Vh 312 #[p_ B,p_ X] u fun e w'=>e=.returned (Vb Vf (16777216*(a.toNat:Int)+65536*(b.toNat:Int)+256*(c.toNat:Int)+(d.toNat:Int)))/\u.grownBy w' (some B):=by
 have HN:=M0 (qQ B a b c d [] u h (by simp[maxLen]))
 have HT:=fun u=>M0 (oo 2 u)
 clear h
 go_enter func312,ntmps312
 go_wp2_with fail
 refine HN.mono ?_
 rintro e w1 ⟨rfl,h1,g1⟩
 have c1:w1.cell? (a_ B 0)=some (.string ⟨#[]⟩):=Vm h1
 have G1:=M0 g1
 clear h1 g1
 go_wp2_with fail
 refine(gB (HT _)).mono ?_
 rintro e w2 ⟨rfl,rfl⟩
 go_wp2
 go_ret
 exact⟨rfl,G1⟩
theorem Ex(B X:Nat)(l:List UInt8)(u:fV)(h:iL u B l)(hl:l.length≠4)(hs:l.length<=maxLen)(hX:u.cell? (a_ X 0)=some (.func (.func 148) #[] #[])):
  f_ Vh 312 #[p_ B,p_ X] u fun e w'=>(∃k,(k=1∨k=2)/\e=.panicked (iH k))/\u.grownBy w' (some B):=by
 by_cases hn:l.length<4
 ·have HN:=M0 (Ep B l u h hn hs)
  clear h hl
  go_enter func312,ntmps312
  go_wp2_with fail
  refine HN.mono ?_
  rintro e w1 ⟨rfl,g1⟩
  exact⟨rfl,⟨1,au rfl,rfl⟩,g1⟩
 ·obtain⟨a,b,c,d,x,r,rfl⟩:∃a b c d x r,l=a::b::c::d::x::r:=Qt l hn hl
  have HN:=M0 (qQ B a b c d (x::r) u h hs)
  have HT:=fun u=>M0 (om 2 u)
  clear h hl hn hs
  go_enter func312,ntmps312
  go_wp2_with fail
  refine HN.mono ?_
  rintro e w1 ⟨rfl,h1,g1⟩
  have c1:w1.cell? (a_ B 0)=some (.string ⟨(x::r).toArray⟩):=Vm h1
  have hne:(⟨(x::r).toArray⟩:ByteArray).toList.isEmpty=false:=xm x r
  obtain⟨y,hy⟩:∃y:ByteArray,y=⟨(x::r).toArray⟩:=⟨_,rfl⟩
  rw[<-hy]at c1 hne
  have G1:=M0 g1
  clear h1 g1 hy
  go_wp2_with fail
  refine(gB (HT _)).mono ?_
  rintro e w2 ⟨rfl,rfl⟩
  exact⟨rfl,⟨2,aA rfl,rfl⟩,G1⟩
theorem Ji{w w1 W:fV}{s:ByteArray}(g:W.grownBy w1 (some (w.heap.size+1)))(hW:W=(w.alloc (.cells #[Vb Vg 0] 26)).alloc (.cells #[.string s] 166)):
  w1.heap[w.heap.size]?=some (.cells #[Vb Vg 0] 26 (0,0)):=by
 have e1:W.heap[w.heap.size]?=some (.cells #[Vb Vg 0] 26 (0,0)):=by
  rw[hW,Vi _ _ _ (by simp)];exact G8 w _
 exact(g.block _ (Vj e1) (fun q=>by simp at q)).trans e1
theorem LQ(s:ByteArray)(X:Nat)(w:fV)(hX:w.cell? (a_ X 0)=some (.func (.func 148) #[] #[]))(hl:s.data.toList.length≠4)(hs:s.data.toList.length<=maxLen):
  f_ Vh 311 #[.string s,.func (.func 312) #[] #[p_ X]] w fun ee w'=>(∃k,(k=1∨k=2)/\ee=.returned (.tuple #[Vb Vf 0,Vb Vg k]))/\gm w.heap.size w w':=by
 have hmf:∀(fn:Fn) (first cap:Array Value) (w:fV),(Instr.makeFunc fn first cap).run Vh w=.ok (.func fn first cap) w:=fun _ _ _ _=>rfl
 have hXl:X<w.heap.size:=aH w _ hX
 have HR:=M0 (Ex (w.heap.size+1) X s.data.toList ((w.alloc (.cells #[Vb Vg 0] 26)).alloc (.cells #[.string s] 166)) (iG _ _ s (by simp)) hl hs ((Vk ((Vi _ _ _ (by simp;omega)).trans (Vi _ _ _ hXl))).trans hX))
 clear hX hl hs hXl
 go_enter_defers func311,ntmps311
 go_wp2_with fail
 refine HR.mono ?_
 rintro ee w1 ⟨⟨k,hk,rfl⟩,g1⟩
 have he:=Ji g1 rfl
 have hc:=Vm he
 have hf:=Vy he
 refine VF (f:=318) (args:=#[p_ w.heap.size]) (by simp) (by simp[go_sem]) ?_
 refine(xO (a_ w.heap.size 0) 0 k [] _ hc hf).mono ?_
 rintro e u' w'' ⟨rfl,rfl,rfl⟩
 simp[Leaves,settle,results,results311,go_sem,hc]
 exact⟨hk,(jk g1 (((R9 _ w).alloc (ai _) _).alloc (by simp) _) (by omega)).setCell (by simp) _⟩
theorem NL(s:ByteArray)(X:Nat)(a b c d:UInt8)(w:fV)(hX:w.cell? (a_ X 0)=some (.func (.func 148) #[] #[]))(hl:s.data.toList=[a,b,c,d]):
  f_ Vh 311 #[.string s,.func (.func 312) #[] #[p_ X]] w fun ee w'=>ee=.returned (.tuple #[Vb Vf (16777216*(a.toNat:Int)+65536*(b.toNat:Int)+256*(c.toNat:Int)+(d.toNat:Int)),Vb Vg 0])/\gm w.heap.size w w':=by
 have hmf:∀(fn:Fn) (first cap:Array Value) (w:fV),(Instr.makeFunc fn first cap).run Vh w=.ok (.func fn first cap) w:=fun _ _ _ _=>rfl
 have hXl:X<w.heap.size:=aH w _ hX
 have HR:=M0 (Fe (w.heap.size+1) X a b c d ((w.alloc (.cells #[Vb Vg 0] 26)).alloc (.cells #[.string s] 166)) (by have q:=iG (w.alloc (.cells #[Vb Vg 0] 26)) (w.heap.size+1) s (by simp);rw[hl]at q;exact q) ((Vk ((Vi _ _ _ (by simp;omega)).trans (Vi _ _ _ hXl))).trans hX))
 obtain⟨v,hv⟩:∃v:Int,v=(16777216*(a.toNat:Int)+65536*(b.toNat:Int)+256*(c.toNat:Int)+(d.toNat:Int)):=⟨_,rfl⟩
 rw[<-hv]at HR ⊢
 clear hX hl hXl hv
 go_enter_defers func311,ntmps311
 go_wp2_with fail
 refine HR.mono ?_
 rintro ee w1 ⟨rfl,g1⟩
 have he:=Ji g1 rfl
 have hc:=Vm he
 have hf:=Vy he
 have HB:=M0 (jk g1 (((R9 _ w).alloc (ai _) _).alloc (by simp) _) (by omega))
 have hs2:=Vm (VR (u:=Vb Vg 0) he)
 clear g1 he HR
 go_wp2
 refine VF (f:=318) (args:=#[p_ w.heap.size]) (by simp) (by simp[go_sem]) ?_
 refine(Fj (a_ w.heap.size 0) _).mono ?_
 rintro e u' w'' ⟨rfl,rfl,rfl⟩
 simp[Leaves,settle,results,results311,go_sem,hs2]
 exact HB.setCell (by simp) _
theorem KZ(a0:Option Addr)(cap:Nat)(os:gU)(cd:UInt8)(a b c d:UInt8)(w:fV)(hA:At w a0 os)(hl:heavy os<=268435456)(hd:data os cd=[a,b,c,d]):
  f_ Vh 308 #[.slice a0 os.length cap,Vb Vd cd.toNat,(.func (.func 148) #[] #[])] w fun ee w'=>ee=.returned (.tuple #[Vb Vf (16777216*(a.toNat:Int)+65536*(b.toNat:Int)+256*(c.toNat:Int)+(d.toNat:Int)),.bool true])/\gm w.heap.size w w':=by
 have hmf:∀(fn:Fn) (first cap:Array Value) (w:fV),(Instr.makeFunc fn first cap).run Vh w=.ok (.func fn first cap) w:=fun _ _ _ _=>rfl
 have HD:=M0 (nN a0 cap os cd (w.alloc (.cells #[(.func (.func 148) #[] #[])] 348)) (hA.below ((R9 w.heap.size w).alloc (ai _) _) (ai _)) hl)
 rw[hd]at HD
 have HR:=fun(u:fV) hX=>M0 (NL ⟨([a,b,c,d]:List UInt8).toArray⟩ w.heap.size a b c d u hX rfl)
 obtain⟨v,hv⟩:∃v:Int,v=(16777216*(a.toNat:Int)+65536*(b.toNat:Int)+256*(c.toNat:Int)+(d.toNat:Int)):=⟨_,rfl⟩
 obtain⟨s,hs⟩:∃s:ByteArray,s=⟨([a,b,c,d]:List UInt8).toArray⟩:=⟨_,rfl⟩
 rw[<-hv,<-hs]at HR
 rw[<-hs]at HD
 rw[<-hv]
 clear hA hl hd hv hs
 go_enter func308,ntmps308
 go_wp2_with fail
 refine HD.mono ?_
 rintro ee u1 ⟨rfl,hb1⟩
 have hx:u1.cell? (a_ w.heap.size 0)=some (.func (.func 148) #[] #[]):=(hb1.cell (p:=(a_ w.heap.size 0)) (by simp)).trans (dh _ _ 0 _ _ _ (G8 w _))
 have HB1:=M0 (((R9 w.heap.size w).alloc (ai _) _).trans (hb1.mono (by simp)))
 have HRR:=M0 (gB (HR u1 hx))
 clear hb1 HD HR hx
 go_wp2_with fail
 refine HRR.mono ?_
 rintro ee u2 ⟨rfl,hb2⟩
 have HB2:=M0 (HB1.trans (hb2.mono HB1.size))
 clear hb2 HRR
 go_wp2
 go_returns
 exact⟨rfl,HB2⟩
theorem KY(a0:Option Addr)(cap:Nat)(os:gU)(cd:UInt8)(w:fV)(hA:At w a0 os)(hl:heavy os<=268435456)(hd:(data os cd).length≠4):
  f_ Vh 308 #[.slice a0 os.length cap,Vb Vd cd.toNat,(.func (.func 148) #[] #[])] w fun ee w'=>ee=.returned (.tuple #[Vb Vf 0,.bool false])/\gm w.heap.size w w':=by
 have hmf:∀(fn:Fn) (first cap:Array Value) (w:fV),(Instr.makeFunc fn first cap).run Vh w=.ok (.func fn first cap) w:=fun _ _ _ _=>rfl
 have HD:=M0 (nN a0 cap os cd (w.alloc (.cells #[(.func (.func 148) #[] #[])] 348)) (hA.below ((R9 w.heap.size w).alloc (ai _) _) (ai _)) hl)
 have hlen:(data os cd).length<=maxLen:=by have:=vL os cd;unfold maxLen;omega
 have HR:=fun(u:fV) hX=>M0 (LQ ⟨(data os cd).toArray⟩ w.heap.size u hX (by simpa using hd) (by simpa using hlen))
 obtain⟨s,hs⟩:∃s:ByteArray,s=⟨(data os cd).toArray⟩:=⟨_,rfl⟩
 rw[<-hs]at HR HD
 clear hA hl hd hs hlen
 go_enter func308,ntmps308
 go_wp2_with fail
 refine HD.mono ?_
 rintro ee u1 ⟨rfl,hb1⟩
 have hx:u1.cell? (a_ w.heap.size 0)=some (.func (.func 148) #[] #[]):=(hb1.cell (p:=(a_ w.heap.size 0)) (by simp)).trans (dh _ _ 0 _ _ _ (G8 w _))
 have HB1:=M0 (((R9 w.heap.size w).alloc (ai _) _).trans (hb1.mono (by simp)))
 have HRR:=M0 (gB (HR u1 hx))
 clear hb1 HD HR hx
 go_wp2_with fail
 refine HRR.mono ?_
 rintro ee u2 ⟨⟨k,hk,rfl⟩,hb2⟩
 have HB2:=M0 (HB1.trans (hb2.mono HB1.size))
 have hk2:(k==0)=false:=by rcases hk with rfl|rfl<;>rfl
 clear hb2 HRR hk
 go_wp2
 go_returns
 exact⟨rfl,HB2⟩
theorem Oq(a0:Option Addr)(cap:Nat)(os:gU)(cd:UInt8)(a b c d:UInt8)(w:fV)(hA:At w a0 os)(hl:heavy os<=268435456)(hd:data os cd=[a,b,c,d]):
  f_ Vh 301 #[.slice a0 os.length cap,Vb Vd cd.toNat] w fun ee w'=>ee=.returned (.tuple #[Vb Vf (16777216*(a.toNat:Int)+65536*(b.toNat:Int)+256*(c.toNat:Int)+(d.toNat:Int)),.bool true])/\gm w.heap.size w w':=by
 have HW:=M0 (KZ a0 cap os cd a b c d w hA hl hd)
 obtain⟨v,hv⟩:∃v:Int,v=(16777216*(a.toNat:Int)+65536*(b.toNat:Int)+256*(c.toNat:Int)+(d.toNat:Int)):=⟨_,rfl⟩
 rw[<-hv]at HW ⊢
 clear hv
 clear hA hl hd
 go_enter func301,ntmps301
 go_wp2_with fail
 refine HW.mono ?_
 rintro ee u1 ⟨rfl,hb1⟩
 have HB1:=M0 hb1
 clear hb1 HW
 go_wp2
 go_returns
 exact⟨rfl,HB1⟩
theorem Ot(a0:Option Addr)(cap:Nat)(os:gU)(cd:UInt8)(w:fV)(hA:At w a0 os)(hl:heavy os<=268435456)(hd:(data os cd).length≠4):
  f_ Vh 301 #[.slice a0 os.length cap,Vb Vd cd.toNat] w fun ee w'=>ee=.returned (.tuple #[Vb Vf 0,.bool false])/\gm w.heap.size w w':=by
 have HW:=M0 (KY a0 cap os cd w hA hl hd)
 clear hA hl hd
 go_enter func301,ntmps301
 go_wp2_with fail
 refine HW.mono ?_
 rintro ee u1 ⟨rfl,hb1⟩
 have HB1:=M0 hb1
 clear hb1 HW
 go_wp2
 go_returns
 exact⟨rfl,HB1⟩
end yJ
end Go.Proofs.YtdgacidndknceaaGreatDoor
