import Derived.Test.YtdgacidndknceaaGreatDoorMg16
import Derived.Test.YtdgacidndknceaaGreatDoorMg23
import Derived.Test.YtdgacidndknceaaGreatDoorMg26
import Derived.Laws.CopyOwn
import Derived.Laws.Rows
set_option linter.all false
set_option maxHeartbeats 4000000
set_option maxRecDepth 20000
open Go.ChangeShapes Go.WideShapes Go.ChangeAt Go.RowKit
open Go renaming World → fV, Calls → f_
open Go.RowKit renaming Below → gm
open Go.Proofs.Tryz renaming prog → Vh
open Go.Value renaming int → Vb
open Go.IntKind renaming u8 → Vd, u16 → Ve, u32 → Vf, i64 → Vg
open Go.Proofs.Tryz
namespace Go.Proofs.YtdgacidndknceaaGreatDoor
namespace Js
open Bs
variable{w0:fV} {P:Nat→Prop} {w w':fV} {B Q:Nat} {m m':Mc}
theorem jl{u:fV}{g:Nat}{t:TypeId}{b0 b1 b2 b3 b4 b5 b6 b7 b8 b9 b10 b11:Value}(h:u.heap[g]?=some (.cells #[b0,b1,b2,b3,b4,b5,b6,b7,b8,b9,b10,b11] t (0,0))):
  u.cell? (a_ g 0)=some b0/\u.cell? (a_ g 1)=some b1/\u.cell? (a_ g 2)=some b2/\u.cell? (a_ g 3)=some b3/\u.cell? (a_ g 4)=some b4/\u.cell? (a_ g 5)=some b5/\u.cell? (a_ g 6)=some b6/\u.cell? (a_ g 7)=some b7/\u.cell? (a_ g 8)=some b8/\u.cell? (a_ g 9)=some b9/\u.cell? (a_ g 10)=some b10/\u.cell? (a_ g 11)=some b11:=by
 have q:=fun j=>dh u g j _ _ _ h
 exact⟨q 0,q 1,q 2,q 3,q 4,q 5,q 6,q 7,q 8,q 9,q 10,q 11⟩
def qB(m:Mc)(rep:Bool)(gF d0 d1 d2 d3 d4 d5:Int):Bool:=rep && gF==m.gF && (d0==(m.k0.toNat:Int) && d1==(m.k1.toNat:Int) && d2==(m.k2.toNat:Int) && d3==(m.k3.toNat:Int) && d4==(m.k4.toNat:Int) && d5==(m.k5.toNat:Int))
theorem uP{u:fV}(h:Mx w0 P u B m)(b:Nat)(o:Obj)(hr:u.heap[b]?=some o)(sa:Option Addr)(os:Dh.gU)(hA:Dh.At u sa os):f_ Vh 221 #[] u fun e w'=>∃g,e=.returned (.slice (some (a_ g 0)) 3 3)/\Hid (Mx w0 P w' B m)/\Hid (w'.heap[b]?=some o)/\Hid (w'.heap[g]?=some (.cells #[Vb Ve 2,(.func (.func 244) #[] #[]),Vb Ve 5,(.func (.func 245) #[] #[]),Vb Ve 6,(.func (.func 246) #[] #[])] 298 (0,0)))/\Hid (¬iq B m g)/\Hid (Dh.At w' sa os):=by
 refine(zY u).mono ?_
 rintro e w' ⟨rfl,rfl⟩
 exact⟨_,rfl,M0 (h.alloc _),M0 ((Vi u _ b (gG hr)).trans hr),M0 (G8 u _),M0 (fun hf=>bS _ (h.ik hf)),M0 (hA.below ((R9 u.heap.size u).alloc (ai _) _) (ai _))⟩
theorem EI(os:Dh.gU)(cd:UInt8)(hh:Dh.heavy os<=268435456):∃(x:Int) (b:Bool),(∀sa sc w,Dh.At w sa os->f_ Vh 219 #[.slice sa os.length sc,Vb Vd cd.toNat] w fun ee w'=>ee=.returned (.tuple #[Vb Vf x,.bool b])/\gm w.heap.size w w')/\((b=true/\∃s0 s1 s2 s3,Dh.data os cd=[s0,s1,s2,s3]/\x=(16777216*(s0.toNat:Int)+65536*(s1.toNat:Int)+256*(s2.toNat:Int)+(s3.toNat:Int)))∨(b=false/\(Dh.data os cd).length≠4)):=by
 by_cases hl:(Dh.data os cd).length=4
 ·obtain⟨s0,s1,s2,s3,hd⟩:∃s0 s1 s2 s3,Dh.data os cd=[s0,s1,s2,s3]:=by
   match Dh.data os cd,hl with
   |[s0,s1,s2,s3],_=>exact⟨s0,s1,s2,s3,rfl⟩
  exact⟨_,true,fun sa sc w hA=>yJ.Je sa sc os cd s0 s1 s2 s3 w hA hh hd,au ⟨rfl,s0,s1,s2,s3,hd,rfl⟩⟩
 ·exact⟨0,false,fun sa sc w hA=>yJ.JB sa sc os cd w hA hh hl,aA ⟨rfl,hl⟩⟩
theorem Er(os:Dh.gU)(cd:UInt8)(hh:Dh.heavy os<=268435456):∃(x:UInt8) (b:Bool),(∀sa sc w,Dh.At w sa os->f_ Vh 218 #[.slice sa os.length sc,Vb Vd cd.toNat] w fun ee w'=>ee=.returned (.tuple #[Vb Vd x.toNat,.bool b])/\gm w.heap.size w w')/\((b=true/\Dh.data os cd=[x])∨(b=false/\(Dh.data os cd).length≠1)):=by
 by_cases hl:(Dh.data os cd).length=1
 ·obtain⟨a,hd⟩:∃a,Dh.data os cd=[a]:=by
   match Dh.data os cd,hl with
   |[a],_=>exact⟨a,rfl⟩
  exact⟨a,true,fun sa sc w hA=>yJ.PH sa sc os cd a w hA hh hd,au ⟨rfl,hd⟩⟩
 ·exact⟨0,false,fun sa sc w hA=>yJ.OZ sa sc os cd w hA hh hl,aA ⟨rfl,hl⟩⟩
end Js
namespace yJ
open Bs Rd Dh
open gP (gD jE jk)
theorem JO(s:ByteArray)(w:fV)(hl:s.data.toList.length<4)(hs:s.data.toList.length<=maxLen):
  f_ Vh 263 #[.string s,.func (.func 110) #[] #[]] w fun ee w'=>ee=.returned (.tuple #[Vb Vf 0,Vb Vg 1])/\gm w.heap.size w w':=by
 have hmf:∀(fn:Fn) (first cap:Array Value) (w:fV),(Instr.makeFunc fn first cap).run Vh w=.ok (.func fn first cap) w:=fun _ _ _ _=>rfl
 have HR:=M0 (yA (w.heap.size+1) s.data.toList ((w.alloc (.cells #[Vb Vg 0] 26)).alloc (.cells #[.string s] 166)) (iG _ _ s (by simp)) hl hs)
 clear hl hs
 go_enter_defers func263,ntmps263
 go_wp2_with fail
 refine HR.mono ?_
 rintro ee w1 ⟨rfl,g1⟩
 have he:=yY g1 rfl
 have hc:=Vm he
 have hf:=Vy he
 refine VF (f:=288) (args:=#[p_ w.heap.size]) (by simp) (by simp[go_sem]) ?_
 refine(qf (a_ w.heap.size 0) 0 1 [] _ hc hf).mono ?_
 rintro e u' w'' ⟨rfl,rfl,rfl⟩
 simp[Leaves,settle,results,results263,go_sem,hc]
 exact(jk g1 (((R9 _ w).alloc (ai _) _).alloc (by simp) _) (by omega)).setCell (by simp) _
theorem au1(s:ByteArray)(a b c d:UInt8)(w:fV)(r:List UInt8)(hl:s.data.toList=a::b::c::d::r)(hs:(a::b::c::d::r).length<=maxLen):
  f_ Vh 263 #[.string s,.func (.func 110) #[] #[]] w fun ee w'=>ee=.returned (.tuple #[Vb Vf (16777216*(a.toNat:Int)+65536*(b.toNat:Int)+256*(c.toNat:Int)+(d.toNat:Int)),Vb Vg 0])/\gm w.heap.size w w':=by
 have hmf:∀(fn:Fn) (first cap:Array Value) (w:fV),(Instr.makeFunc fn first cap).run Vh w=.ok (.func fn first cap) w:=fun _ _ _ _=>rfl
 have HR:=M0 (jg (w.heap.size+1) a b c d r ((w.alloc (.cells #[Vb Vg 0] 26)).alloc (.cells #[.string s] 166)) (by have q:=iG (w.alloc (.cells #[Vb Vg 0] 26)) (w.heap.size+1) s (by simp);rw[hl]at q;exact q) hs)
 obtain⟨v,hv⟩:∃v:Int,v=(16777216*(a.toNat:Int)+65536*(b.toNat:Int)+256*(c.toNat:Int)+(d.toNat:Int)):=⟨_,rfl⟩
 rw[<-hv]at HR ⊢
 clear hl hs hv
 go_enter_defers func263,ntmps263
 go_wp2_with fail
 refine HR.mono ?_
 rintro ee w1 ⟨rfl,_,g1⟩
 have he:=yY g1 rfl
 have hc:=Vm he
 have hf:=Vy he
 have HB:=M0 (jk g1 (((R9 _ w).alloc (ai _) _).alloc (by simp) _) (by omega))
 have hs2:=Vm (VR (u:=Vb Vg 0) he)
 clear g1 he HR
 go_wp2
 refine VF (f:=288) (args:=#[p_ w.heap.size]) (by simp) (by simp[go_sem]) ?_
 refine(yG (a_ w.heap.size 0) _).mono ?_
 rintro e u' w'' ⟨rfl,rfl,rfl⟩
 simp[Leaves,settle,results,results263,go_sem,hs2]
 exact HB.setCell (by simp) _
def j6(l:List UInt8):Int:=match l with
 |a::b::c::d::_=>16777216*(a.toNat:Int)+65536*(b.toNat:Int)+256*(c.toNat:Int)+(d.toNat:Int)
 |_=>0
theorem I6(s:ByteArray)(w:fV)(hs:s.data.toList.length<=maxLen):∃k:Int,f_ Vh 263 #[.string s,.func (.func 110) #[] #[]] w fun ee w'=>ee=.returned (.tuple #[Vb Vf (j6 s.data.toList),Vb Vg k])/\gm w.heap.size w w':=by
 by_cases hn:s.data.toList.length<4
 ·have e:j6 s.data.toList=0:=by
   unfold j6
   split
   ·rename_i h;rw[h]at hn;simp at hn;omega
   ·rfl
  rw[e]
  exact⟨1,JO s w hn hs⟩
 ·obtain⟨a,b,c,d,r,hr⟩:∃a b c d r,s.data.toList=a::b::c::d::r:=by
   match s.data.toList,hn with
   |a::b::c::d::r,_=>exact⟨a,b,c,d,r,rfl⟩
   |[],h=>exact absurd (by simp) h
   |[_],h=>exact absurd (by simp) h
   |[_,_],h=>exact absurd (by simp) h
   |[_,_,_],h=>exact absurd (by simp) h
  have e:j6 s.data.toList=16777216*(a.toNat:Int)+65536*(b.toNat:Int)+256*(c.toNat:Int)+(d.toNat:Int):=by rw[hr];rfl
  rw[e]
  exact⟨0,au1 s a b c d w r hr (by rw[<-hr];exact hs)⟩
theorem J3(a0:Option Addr)(cap:Nat)(os:gU)(cd:UInt8)(w:fV)(hA:At w a0 os)(hl:heavy os<=268435456)(hd:(data os cd).length<=maxLen):
  f_ Vh 303 #[.slice a0 os.length cap,Vb Vd cd.toNat] w fun ee w'=>ee=.returned (Vb Vf (j6 (data os cd)))/\gm w.heap.size w w':=by
 have HD:=M0 (nN a0 cap os cd w hA hl)
 have HR:=fun(u:fV)=>M0 (I6 ⟨(data os cd).toArray⟩ u (by simpa using hd))
 obtain⟨v,hv⟩:∃v:Int,v=j6 (data os cd):=⟨_,rfl⟩
 obtain⟨s,hs⟩:∃s:ByteArray,s=⟨(data os cd).toArray⟩:=⟨_,rfl⟩
 have hv2:j6 s.data.toList=v:=by rw[hs,hv]
 rw[<-hs]at HR HD
 rw[<-hv]
 simp only[hv2]at HR
 generalize has os cd=hb at HD
 clear hA hl hd hv hs hv2
 go_enter func303,ntmps303
 go_wp2_with fail
 refine HD.mono ?_
 rintro ee u1 ⟨rfl,hb1⟩
 have HB1:=M0 hb1
 obtain⟨k,hk⟩:=gB (HR u1)
 have HK:=M0 hk
 clear hb1 HD HR hk
 go_wp2_with fail
 refine HK.mono ?_
 rintro ee u2 ⟨rfl,hb2⟩
 have HB2:=M0 (HB1.trans (hb2.mono HB1.size))
 clear hb2 HK
 go_wp2
 go_ret
 exact⟨rfl,HB2⟩
end yJ
namespace yJ
open Bs Rd Dh
def four(l:List UInt8):Option Int:=match l with
 |[a,b,c,d]=>some (16777216*(a.toNat:Int)+65536*(b.toNat:Int)+256*(c.toNat:Int)+(d.toNat:Int))
 |_=>none
theorem xQ{l:List UInt8}(h:l.length≠4):four l=none:=by
 unfold four
 split
 ·rename_i e;simp at h
 ·rfl
theorem xq{l:List UInt8}(h:l.length=4):∃a b c d,l=[a,b,c,d]/\four l=some (16777216*(a.toNat:Int)+65536*(b.toNat:Int)+256*(c.toNat:Int)+(d.toNat:Int)):=by
 match l,h with
 |[a,b,c,d],_=>exact⟨a,b,c,d,rfl,rfl⟩
theorem aF2{l:List UInt8}{x:Int}(h:four l=some x):0<=x/\x<=4294967295:=by
 unfold four at h
 split at h
 ·rename_i a b c d
  have ha:=fF a
  have hb:=fF b
  have hc:=fF c
  have hd:=fF d
  have e:=aU h
  omega
 ·cases h
theorem ED(a0:Option Addr)(cap:Nat)(os:gU)(cd:UInt8)(w:fV)(hA:At w a0 os)(hl:heavy os<=268435456):
  f_ Vh 301 #[.slice a0 os.length cap,Vb Vd cd.toNat] w fun ee w'=>ee=.returned (.tuple #[Vb Vf ((four (data os cd)).getD 0),.bool (four (data os cd)).isSome])/\gm w.heap.size w w':=by
 by_cases h4:(data os cd).length=4
 ·obtain⟨a,b,c,d,e1,e2⟩:=xq h4
  rw[e2]
  exact Oq a0 cap os cd a b c d w hA hl e1
 ·rw[xQ h4]
  exact Ot a0 cap os cd w hA hl h4
theorem SV(a0:Option Addr)(cap:Nat)(os:gU)(cd:UInt8)(w:fV)(hA:At w a0 os)(hl:heavy os<=268435456):
  f_ Vh 219 #[.slice a0 os.length cap,Vb Vd cd.toNat] w fun ee w'=>ee=.returned (.tuple #[Vb Vf ((four (data os cd)).getD 0),.bool (four (data os cd)).isSome])/\gm w.heap.size w w':=by
 by_cases h4:(data os cd).length=4
 ·obtain⟨a,b,c,d,e1,e2⟩:=xq h4
  rw[e2]
  exact Je a0 cap os cd a b c d w hA hl e1
 ·rw[xQ h4]
  exact JB a0 cap os cd w hA hl h4
theorem jX(rep:Bool)(gF cl yo ne d0 d1 d2 d3 d4 d5:Int)(sa:Option Addr)(sc:Nat)(os:gU)(sv:Int)(w:fV):f_ Vh 300 #[.agg (rD rep gF cl yo ne d0 d1 d2 d3 d4 d5 sa os.length sc sv)] w fun ee w'=>ee=.returned (.slice sa os.length sc)/\gm w.heap.size w w':=by
 obtain⟨n,hn⟩:∃n,n=os.length:=⟨_,rfl⟩
 rw[<-hn]
 clear hn
 go_enter func300,ntmps300
 go_wp2
 go_ret
 exact⟨rfl,(R9 _ _).alloc (ai _) _⟩
theorem XA(rep:Bool)(gF cl yo ne d0 d1 d2 d3 d4 d5:Int)(sa:Option Addr)(sc:Nat)(os:gU)(sv:Int)(w:fV):f_ Vh 304 #[.agg (rD rep gF cl yo ne d0 d1 d2 d3 d4 d5 sa os.length sc sv)] w fun ee w'=>ee=.returned (Vb Vf (if ne=0 then sv else ne))/\gm w.heap.size w w':=by
 obtain⟨n,hn⟩:∃n,n=os.length:=⟨_,rfl⟩
 rw[<-hn]
 clear hn
 by_cases h0:ne=0
 ·rw[ay h0]
  subst h0
  go_enter func304,ntmps304
  go_wp2
  go_ret
  exact⟨rfl,(R9 _ _).alloc (ai _) _⟩
 ·rw[ax h0]
  have h1:(ne !=0)=true:=by simpa using h0
  have h2:(ne==0)=false:=by simpa using h0
  clear h0
  go_enter func304,ntmps304
  go_wp2
  go_ret
  exact⟨rfl,(R9 _ _).alloc (ai _) _⟩
theorem Ny(rep:Bool)(gF cl yo ne d0 d1 d2 d3 d4 d5:Int)(sa:Option Addr)(sc:Nat)(os:gU)(sv:Int)(w:fV)(hA:At w sa os)(hl:heavy os<=268435456):f_ Vh 302 #[.agg (rD rep gF cl yo ne d0 d1 d2 d3 d4 d5 sa os.length sc sv)] w fun ee w'=>ee=.returned (Vb Vf ((four (data os 1)).getD 4294967295))/\gm w.heap.size w w':=by
 have hb0:gm w.heap.size w (w.alloc (.cells (rD rep gF cl yo ne d0 d1 d2 d3 d4 d5 sa os.length sc sv) 269)):=(R9 _ _).alloc (ai _) _
 have HO:=M0 (jX rep gF cl yo ne d0 d1 d2 d3 d4 d5 sa sc os sv (w.alloc (.cells (rD rep gF cl yo ne d0 d1 d2 d3 d4 d5 sa os.length sc sv) 269)))
 have HB0:=M0 hb0
 have HAD:Hid (∀u,gm w.heap.size w u->f_ Vh 219 #[.slice sa os.length sc,Vb Vd 1] u fun ee w'=>ee=.returned (.tuple #[Vb Vf ((four (data os 1)).getD 0),.bool (four (data os 1)).isSome])/\gm u.heap.size u w'):=M0 (fun u hb=>SV sa sc os 1 u (hA.below hb (ai _)) hl)
 obtain⟨n,hn⟩:∃n,n=os.length:=⟨_,rfl⟩
 rw[<-hn]at HO HAD HB0 ⊢
 clear hn hA hl hb0
 cases hf:four (data os 1)with
 |none=>
  rw[hf]at HAD
  go_enter func302,ntmps302
  go_wp2_with fail
  refine HO.mono ?_
  rintro ee u1 ⟨rfl,hb1⟩
  have HB1:=M0 (HB0.trans (hb1.mono HB0.size))
  clear hb1 HO
  go_wp2_with fail
  refine(HAD _ HB1).mono ?_
  rintro ee u2 ⟨rfl,hb2⟩
  have HB2:=M0 (HB1.trans (hb2.mono HB1.size))
  clear hb2 HAD
  go_wp2
  go_ret
  exact⟨rfl,HB2⟩
 |some x=>
  rw[hf]at HAD
  go_enter func302,ntmps302
  go_wp2_with fail
  refine HO.mono ?_
  rintro ee u1 ⟨rfl,hb1⟩
  have HB1:=M0 (HB0.trans (hb1.mono HB0.size))
  clear hb1 HO
  go_wp2_with fail
  refine(HAD _ HB1).mono ?_
  rintro ee u2 ⟨rfl,hb2⟩
  have HB2:=M0 (HB1.trans (hb2.mono HB1.size))
  clear hb2 HAD
  go_wp2
  go_ret
  exact⟨rfl,HB2⟩
def sJ(x y:Option Int)(t:Int):Int×Int:=match x,y with
 |some x,some y=>if x<y/\y<t then(x,y)else(t/2,t/8*7)
 |_,_=>(t/2,t/8*7)
theorem Nr(rep:Bool)(gF cl yo ne d0 d1 d2 d3 d4 d5:Int)(sa:Option Addr)(sc:Nat)(os:gU)(sv:Int)(t:Int)(ht:0<=t/\t<=4294967295)(w:fV)(hA:At w sa os)(hl:heavy os<=268435456):f_ Vh 305 #[.agg (rD rep gF cl yo ne d0 d1 d2 d3 d4 d5 sa os.length sc sv),Vb Vf t] w fun ee w'=>ee=.returned (.tuple #[Vb Vf (sJ (four (data os 58)) (four (data os 59)) t).1,Vb Vf (sJ (four (data os 58)) (four (data os 59)) t).2])/\gm w.heap.size w w':=by
 have hb0:gm w.heap.size w (w.alloc (.cells (rD rep gF cl yo ne d0 d1 d2 d3 d4 d5 sa os.length sc sv) 269)):=(R9 _ _).alloc (ai _) _
 have HO0:=M0 (jX rep gF cl yo ne d0 d1 d2 d3 d4 d5 sa sc os sv (w.alloc (.cells (rD rep gF cl yo ne d0 d1 d2 d3 d4 d5 sa os.length sc sv) 269)))
 have HO1:Hid (∀u,f_ Vh 300 #[.agg (rD rep gF cl yo ne d0 d1 d2 d3 d4 d5 sa os.length sc sv)] u fun ee w'=>ee=.returned (.slice sa os.length sc)/\gm u.heap.size u w'):=M0 (fun u=>jX rep gF cl yo ne d0 d1 d2 d3 d4 d5 sa sc os sv u)
 have HB0:=M0 hb0
 have HL1:Hid (∀u,gm w.heap.size w u->f_ Vh 301 #[.slice sa os.length sc,Vb Vd 58] u fun ee w'=>ee=.returned (.tuple #[Vb Vf ((four (data os 58)).getD 0),.bool (four (data os 58)).isSome])/\gm u.heap.size u w'):=M0 (fun u hb=>ED sa sc os 58 u (hA.below hb (ai _)) hl)
 have HL2:Hid (∀u,gm w.heap.size w u->f_ Vh 301 #[.slice sa os.length sc,Vb Vd 59] u fun ee w'=>ee=.returned (.tuple #[Vb Vf ((four (data os 59)).getD 0),.bool (four (data os 59)).isSome])/\gm u.heap.size u w'):=M0 (fun u hb=>ED sa sc os 59 u (hA.below hb (ai _)) hl)
 obtain⟨n,hn⟩:∃n,n=os.length:=⟨_,rfl⟩
 rw[<-hn]at HO0 HO1 HL1 HL2 HB0 ⊢
 have e2:t.tdiv 2=t/2:=dG ht.1
 have e8:t.tdiv 8=t/8:=dG ht.1
 have w2:IntKind.u32.wrap (t/2)=t/2:=by rw[IntKind.wrap_u32];omega
 have w8:IntKind.u32.wrap (t/8)=t/8:=by rw[IntKind.wrap_u32];omega
 have w7:IntKind.u32.wrap (t/8*7)=t/8*7:=by rw[IntKind.wrap_u32];omega
 clear hn hA hl hb0 ht
 generalize four (data os 58)=x at*
 generalize four (data os 59)=y at*
 obtain⟨pq,hpq⟩:∃pq,pq=sJ x y t:=⟨_,rfl⟩
 rw[<-hpq]
 cases x with
 |none=>
  have hv:pq=(t/2,t/8*7):=hpq
  subst hv
  clear hpq
  dsimp only[Option.getD,Option.isSome]at HL1
  go_enter func305,ntmps305
  go_wp2_with fail
  refine HO0.mono ?_
  rintro ee u1 ⟨rfl,hb1⟩
  have HB1:=M0 (HB0.trans (hb1.mono HB0.size))
  have HR1:=M0 ((hb1.block w.heap.size (by simp)).trans (G8 w (.cells (rD rep gF cl yo ne d0 d1 d2 d3 d4 d5 sa n sc sv) 269)))
  clear hb1 HO0
  go_wp2_with fail
  refine(HL1 _ HB1).mono ?_
  rintro ee u2 ⟨rfl,hb2⟩
  have HB2:=M0 (HB1.trans (hb2.mono HB1.size))
  have HR2:=M0 ((hb2.block w.heap.size (Vj HR1)).trans HR1)
  clear hb2 HL1 HR1
  go_wp2_with (refine VO rfl 269 (.tmp 2) rfl w.heap.size rfl 269 _ (0,0) _ HR2 wh rfl (by kernel_rfl) ?_)
  refine(HO1 _).mono ?_
  rintro ee u3 ⟨rfl,hb3⟩
  have HB3:=M0 (HB2.trans (hb3.mono HB2.size))
  clear hb3 HO1 HR2
  go_wp2_with fail
  refine(HL2 _ HB3).mono ?_
  rintro ee u4 ⟨rfl,hb4⟩
  have HB4:=M0 (HB3.trans (hb4.mono HB3.size))
  clear hb4 HL2
  go_wp2
  go_ret2
  exact⟨by first|rfl|simp[*],HB4⟩
 |some x=>
  dsimp only[Option.getD,Option.isSome]at HL1
  cases y with
  |none=>
   have hv:pq=(t/2,t/8*7):=hpq
   subst hv
   clear hpq
   dsimp only[Option.getD,Option.isSome]at HL2
   go_enter func305,ntmps305
   go_wp2_with fail
   refine HO0.mono ?_
   rintro ee u1 ⟨rfl,hb1⟩
   have HB1:=M0 (HB0.trans (hb1.mono HB0.size))
   have HR1:=M0 ((hb1.block w.heap.size (by simp)).trans (G8 w (.cells (rD rep gF cl yo ne d0 d1 d2 d3 d4 d5 sa n sc sv) 269)))
   clear hb1 HO0
   go_wp2_with fail
   refine(HL1 _ HB1).mono ?_
   rintro ee u2 ⟨rfl,hb2⟩
   have HB2:=M0 (HB1.trans (hb2.mono HB1.size))
   have HR2:=M0 ((hb2.block w.heap.size (Vj HR1)).trans HR1)
   clear hb2 HL1 HR1
   go_wp2_with (refine VO rfl 269 (.tmp 2) rfl w.heap.size rfl 269 _ (0,0) _ HR2 wh rfl (by kernel_rfl) ?_)
   refine(HO1 _).mono ?_
   rintro ee u3 ⟨rfl,hb3⟩
   have HB3:=M0 (HB2.trans (hb3.mono HB2.size))
   clear hb3 HO1 HR2
   go_wp2_with fail
   refine(HL2 _ HB3).mono ?_
   rintro ee u4 ⟨rfl,hb4⟩
   have HB4:=M0 (HB3.trans (hb4.mono HB3.size))
   clear hb4 HL2
   go_wp2
   go_ret2
   exact⟨by first|rfl|simp[*],HB4⟩
  |some y=>
   dsimp only[Option.getD,Option.isSome]at HL2
   by_cases h1:x<y
   ·by_cases h2:y<t
    ·have hv:pq=(x,y):=hpq.trans (by show(if x<y/\y<t then(x,y)else _)=_;rw[ay ⟨h1,h2⟩])
     subst hv
     clear hpq
     go_enter func305,ntmps305
     go_wp2_with fail
     refine HO0.mono ?_
     rintro ee u1 ⟨rfl,hb1⟩
     have HB1:=M0 (HB0.trans (hb1.mono HB0.size))
     have HR1:=M0 ((hb1.block w.heap.size (by simp)).trans (G8 w (.cells (rD rep gF cl yo ne d0 d1 d2 d3 d4 d5 sa n sc sv) 269)))
     clear hb1 HO0
     go_wp2_with fail
     refine(HL1 _ HB1).mono ?_
     rintro ee u2 ⟨rfl,hb2⟩
     have HB2:=M0 (HB1.trans (hb2.mono HB1.size))
     have HR2:=M0 ((hb2.block w.heap.size (Vj HR1)).trans HR1)
     clear hb2 HL1 HR1
     go_wp2_with (refine VO rfl 269 (.tmp 2) rfl w.heap.size rfl 269 _ (0,0) _ HR2 wh rfl (by kernel_rfl) ?_)
     refine(HO1 _).mono ?_
     rintro ee u3 ⟨rfl,hb3⟩
     have HB3:=M0 (HB2.trans (hb3.mono HB2.size))
     clear hb3 HO1 HR2
     go_wp2_with fail
     refine(HL2 _ HB3).mono ?_
     rintro ee u4 ⟨rfl,hb4⟩
     have HB4:=M0 (HB3.trans (hb4.mono HB3.size))
     clear hb4 HL2
     go_wp2
     go_ret2
     exact⟨by first|rfl|simp[*],HB4⟩
    ·have hv:pq=(t/2,t/8*7):=hpq.trans (by show(if x<y/\y<t then(x,y)else _)=_;rw[ax (fun h=>h2 h.2)])
     subst hv
     clear hpq
     go_enter func305,ntmps305
     go_wp2_with fail
     refine HO0.mono ?_
     rintro ee u1 ⟨rfl,hb1⟩
     have HB1:=M0 (HB0.trans (hb1.mono HB0.size))
     have HR1:=M0 ((hb1.block w.heap.size (by simp)).trans (G8 w (.cells (rD rep gF cl yo ne d0 d1 d2 d3 d4 d5 sa n sc sv) 269)))
     clear hb1 HO0
     go_wp2_with fail
     refine(HL1 _ HB1).mono ?_
     rintro ee u2 ⟨rfl,hb2⟩
     have HB2:=M0 (HB1.trans (hb2.mono HB1.size))
     have HR2:=M0 ((hb2.block w.heap.size (Vj HR1)).trans HR1)
     clear hb2 HL1 HR1
     go_wp2_with (refine VO rfl 269 (.tmp 2) rfl w.heap.size rfl 269 _ (0,0) _ HR2 wh rfl (by kernel_rfl) ?_)
     refine(HO1 _).mono ?_
     rintro ee u3 ⟨rfl,hb3⟩
     have HB3:=M0 (HB2.trans (hb3.mono HB2.size))
     clear hb3 HO1 HR2
     go_wp2_with fail
     refine(HL2 _ HB3).mono ?_
     rintro ee u4 ⟨rfl,hb4⟩
     have HB4:=M0 (HB3.trans (hb4.mono HB3.size))
     clear hb4 HL2
     go_wp2
     go_ret2
     exact⟨by first|rfl|simp[*],HB4⟩
   ·have hv:pq=(t/2,t/8*7):=hpq.trans (by show(if x<y/\y<t then(x,y)else _)=_;rw[ax (fun h=>h1 h.1)])
    subst hv
    clear hpq
    go_enter func305,ntmps305
    go_wp2_with fail
    refine HO0.mono ?_
    rintro ee u1 ⟨rfl,hb1⟩
    have HB1:=M0 (HB0.trans (hb1.mono HB0.size))
    have HR1:=M0 ((hb1.block w.heap.size (by simp)).trans (G8 w (.cells (rD rep gF cl yo ne d0 d1 d2 d3 d4 d5 sa n sc sv) 269)))
    clear hb1 HO0
    go_wp2_with fail
    refine(HL1 _ HB1).mono ?_
    rintro ee u2 ⟨rfl,hb2⟩
    have HB2:=M0 (HB1.trans (hb2.mono HB1.size))
    have HR2:=M0 ((hb2.block w.heap.size (Vj HR1)).trans HR1)
    clear hb2 HL1 HR1
    go_wp2_with (refine VO rfl 269 (.tmp 2) rfl w.heap.size rfl 269 _ (0,0) _ HR2 wh rfl (by kernel_rfl) ?_)
    refine(HO1 _).mono ?_
    rintro ee u3 ⟨rfl,hb3⟩
    have HB3:=M0 (HB2.trans (hb3.mono HB2.size))
    clear hb3 HO1 HR2
    go_wp2_with fail
    refine(HL2 _ HB3).mono ?_
    rintro ee u4 ⟨rfl,hb4⟩
    have HB4:=M0 (HB3.trans (hb4.mono HB3.size))
    clear hb4 HL2
    go_wp2
    go_ret2
    exact⟨by first|rfl|simp[*],HB4⟩
def Tm(w:fV)(ra:Array Value)(u:fV):Prop:=gm w.heap.size w u/\u.heap[w.heap.size]?=some (.cells ra 269 (0,0))/\u.heap[w.heap.size+1]?=some (.cells zG_ 109 (0,0))
theorem Tm.lt{w u:fV}{ra:Array Value}(h:Tm w ra u):w.heap.size+1<u.heap.size:=Vj h.2.2
theorem Tm.below{w u u':fV}{ra:Array Value}(h:Tm w ra u)(hb:gm u.heap.size u u'):Tm w ra u':=
 ⟨h.1.trans (hb.mono h.1.size),(hb.block _ (Vj h.2.1)).trans h.2.1,(hb.block _ (Vj h.2.2)).trans h.2.2⟩
theorem Tm.set{w u:fV}{ra:Array Value}(h:Tm w ra u)(b:Nat)(hb:w.heap.size+1<b)(cs:Array Value):Tm w ra (u.setRow b cs):=
 ⟨below_setRow h.1 (by omega) cs,(setRow_other _ _ _ _ (by omega)).trans h.2.1,(setRow_other _ _ _ _ (by omega)).trans h.2.2⟩
theorem QW{u:fV}{g:Nat}{t:TypeId}{b0 b1 b2 b3 b4 b5 b6 b7 b8 b9 b10 b11 b12:Value}(h:u.heap[g]?=some (.cells #[b0,b1,b2,b3,b4,b5,b6,b7,b8,b9,b10,b11,b12] t (0,0))):
  u.cell? (a_ g 0)=some b0/\u.cell? (a_ g 1)=some b1/\u.cell? (a_ g 2)=some b2/\u.cell? (a_ g 3)=some b3/\u.cell? (a_ g 4)=some b4/\u.cell? (a_ g 5)=some b5/\u.cell? (a_ g 6)=some b6/\u.cell? (a_ g 7)=some b7/\u.cell? (a_ g 8)=some b8/\u.cell? (a_ g 9)=some b9/\u.cell? (a_ g 10)=some b10/\u.cell? (a_ g 11)=some b11/\u.cell? (a_ g 12)=some b12:=by
 have q:=fun j=>dh u g j _ _ _ h
 exact⟨q 0,q 1,q 2,q 3,q 4,q 5,q 6,q 7,q 8,q 9,q 10,q 11,q 12⟩
structure Ul where
 ma:Int
 ro:Int
 im:Int
 en:Bool
 old:Int
 iZ:Int
 over:Int
def kS(os:gU)(ne sv t:Int):Ul:=⟨(four (data os 1)).getD 4294967295,j6 (data os 3),if ne=0 then sv else ne,t !=4294967295,(sJ (four (data os 58)) (four (data os 59)) t).1,(sJ (four (data os 58)) (four (data os 59)) t).2,t⟩
theorem Tm.fresh{w x0:fV}{cs:Array Value}(h:Tm w cs x0):∃(xa:fV) (b:Nat),xa=x0.alloc (.cells zG_ 109)/\b=x0.heap.size/\Hid (w.heap.size+1<b)/\Hid (xa.heap[b]?=some (.cells zG_ 109 (0,0)))/\Hid (Tm w cs xa):=
 ⟨_,_,rfl,rfl,h.lt,G8 x0 _,h.below ((R9 _ _).alloc (ai _) _)⟩
theorem BQ(rep:Bool)(gF cl yo ne d0 d1 d2 d3 d4 d5:Int)(sa:Option Addr)(sc:Nat)(os:gU)(sv:Int)(t:Int)(ht:four (data os 51)=some t)(h0:t≠0)(w:fV)(hA:At w sa os)(hl:heavy os<=268435456)(h3:(data os 3).length<=maxLen):f_ Vh 289 #[.agg (rD rep gF cl yo ne d0 d1 d2 d3 d4 d5 sa os.length sc sv)] w fun ee w'=>ee=.returned (.tuple #[.agg (rG (kS os ne sv t).ma (kS os ne sv t).ro (kS os ne sv t).im (kS os ne sv t).en (kS os ne sv t).old (kS os ne sv t).iZ (kS os ne sv t).over),.bool true])/\gm w.heap.size w w':=by
 obtain⟨mk,hmk⟩:∃mk,mk=(kS os ne sv t).ma:=⟨_,rfl⟩
 obtain⟨ro,hro⟩:∃ro,ro=(kS os ne sv t).ro:=⟨_,rfl⟩
 obtain⟨im,him⟩:∃im,im=(kS os ne sv t).im:=⟨_,rfl⟩
 obtain⟨en,hen⟩:∃en,en=(kS os ne sv t).en:=⟨_,rfl⟩
 obtain⟨p,hp⟩:∃p,p=(kS os ne sv t).old:=⟨_,rfl⟩
 obtain⟨q,hq⟩:∃q,q=(kS os ne sv t).iZ:=⟨_,rfl⟩
 have hov:(kS os ne sv t).over=t:=rfl
 rw[<-hmk,<-hro,<-him,<-hen,<-hp,<-hq,hov]
 have hne:(t !=4294967295)=en:=hen.symm
 have h00:(t==0)=false:=by simpa using h0
 have HO1:Hid (∀u,f_ Vh 300 #[.agg (rD rep gF cl yo ne d0 d1 d2 d3 d4 d5 sa os.length sc sv)] u fun ee w'=>ee=.returned (.slice sa os.length sc)/\gm u.heap.size u w'):=M0 (fun u=>jX rep gF cl yo ne d0 d1 d2 d3 d4 d5 sa sc os sv u)
 have HO2:Hid (∀u,gm w.heap.size w u->f_ Vh 300 #[.agg (rD rep gF cl yo ne d0 d1 d2 d3 d4 d5 sa os.length sc sv)] u fun ee w'=>ee=.returned (.slice sa os.length sc)/\gm u.heap.size u w'):=M0 (fun u _=>jX rep gF cl yo ne d0 d1 d2 d3 d4 d5 sa sc os sv u)
 have HLG:Hid (∀u,gm w.heap.size w u->f_ Vh 301 #[.slice sa os.length sc,Vb Vd 51] u fun ee w'=>ee=.returned (.tuple #[Vb Vf t,.bool true])/\gm u.heap.size u w'):=M0 (fun u hb=>by have r:=ED sa sc os 51 u (hA.below hb (ai _)) hl;rw[ht]at r;exact r)
 have HMK:Hid (∀u,gm w.heap.size w u->f_ Vh 302 #[.agg (rD rep gF cl yo ne d0 d1 d2 d3 d4 d5 sa os.length sc sv)] u fun ee w'=>ee=.returned (Vb Vf mk)/\gm u.heap.size u w'):=M0 (fun u hb=>by rw[hmk];exact Ny rep gF cl yo ne d0 d1 d2 d3 d4 d5 sa sc os sv u (hA.below hb (ai _)) hl)
 have HFA:Hid (∀u,gm w.heap.size w u->f_ Vh 303 #[.slice sa os.length sc,Vb Vd 3] u fun ee w'=>ee=.returned (Vb Vf ro)/\gm u.heap.size u w'):=M0 (fun u hb=>by rw[hro];exact J3 sa sc os 3 u (hA.below hb (ai _)) hl h3)
 have HIM:Hid (∀u,gm w.heap.size w u->f_ Vh 304 #[.agg (rD rep gF cl yo ne d0 d1 d2 d3 d4 d5 sa os.length sc sv)] u fun ee w'=>ee=.returned (Vb Vf im)/\gm u.heap.size u w'):=M0 (fun u hb=>by rw[him];exact XA rep gF cl yo ne d0 d1 d2 d3 d4 d5 sa sc os sv u)
 have HAG:Hid (∀u,gm w.heap.size w u->f_ Vh 305 #[.agg (rD rep gF cl yo ne d0 d1 d2 d3 d4 d5 sa os.length sc sv),Vb Vf t] u fun ee w'=>ee=.returned (.tuple #[Vb Vf p,Vb Vf q])/\gm u.heap.size u w'):=M0 (fun u hb=>by rw[hp,hq];exact Nr rep gF cl yo ne d0 d1 d2 d3 d4 d5 sa sc os sv t (aF2 ht) u (hA.below hb (ai _)) hl)
 obtain⟨n,hn⟩:∃n,n=os.length:=⟨_,rfl⟩
 rw[<-hn]at HO1 HO2 HLG HMK HFA HIM HAG ⊢
 have HKS:Hid (∀u:fV,u.heap[w.heap.size]?=some (.cells (rD rep gF cl yo ne d0 d1 d2 d3 d4 d5 sa n sc sv) 269 (0,0))->u.cell? (a_ w.heap.size 0)=some (.bool rep)/\u.cell? (a_ w.heap.size 1)=some (Vb Vf gF)/\u.cell? (a_ w.heap.size 2)=some (Vb Vf cl)/\u.cell? (a_ w.heap.size 3)=some (Vb Vf yo)/\u.cell? (a_ w.heap.size 4)=some (Vb Vf ne)/\u.cell? (a_ w.heap.size 5)=some (Vb Vd d0)/\u.cell? (a_ w.heap.size 6)=some (Vb Vd d1)/\u.cell? (a_ w.heap.size 7)=some (Vb Vd d2)/\u.cell? (a_ w.heap.size 8)=some (Vb Vd d3)/\u.cell? (a_ w.heap.size 9)=some (Vb Vd d4)/\u.cell? (a_ w.heap.size 10)=some (Vb Vd d5)/\u.cell? (a_ w.heap.size 11)=some (.slice sa n sc)/\u.cell? (a_ w.heap.size 12)=some (Vb Vf sv)):=M0 (fun u hu=>by have:=QW hu;exact this)
 clear hn hA hl h3 ht h0 hmk hro him hen hp hq hov
 go_enter func289,ntmps289
 go_wp2_with fail
 refine(HO1 _).mono ?_
 rintro ee u1 ⟨rfl,hb1⟩
 have HT1:Hid (Tm w (rD rep gF cl yo ne d0 d1 d2 d3 d4 d5 sa n sc sv) u1):=M0 (Tm.below (u:=(w.alloc (.cells (rD rep gF cl yo ne d0 d1 d2 d3 d4 d5 sa n sc sv) 269)).alloc (.cells zG_ 109)) ⟨((R9 _ _).alloc (ai _) _).alloc (by simp) _,(Vi _ _ _ (by simp)).trans (G8 w _),by have r:=G8 (w.alloc (.cells (rD rep gF cl yo ne d0 d1 d2 d3 d4 d5 sa n sc sv) 269)) (.cells zG_ 109);simpa using r⟩ hb1)
 clear hb1 HO1
 go_wp2_with fail
 refine(HLG _ HT1.1).mono ?_
 rintro ee u2 ⟨rfl,hb2⟩
 have HT0:=M0 (HT1.below hb2)
 clear hb2 HLG HT1
 go_wp2
 go_cut [6] (fun s6 wc=>∃b,s6=(p_ b)/\Hid (Tm w (rD rep gF cl yo ne d0 d1 d2 d3 d4 d5 sa n sc sv) wc/\wc.heap[b]?=some (.cells (rG mk ro im en 0 0 t) 109 (0,0))/\w.heap.size+1<b))
 case first=>
   refine wp_region_held_drew (S:=fun u=>u.cell? (a_ w.heap.size 0)=some (.bool rep)/\u.cell? (a_ w.heap.size 1)=some (Vb Vf gF)/\u.cell? (a_ w.heap.size 2)=some (Vb Vf cl)/\u.cell? (a_ w.heap.size 3)=some (Vb Vf yo)/\u.cell? (a_ w.heap.size 4)=some (Vb Vf ne)/\u.cell? (a_ w.heap.size 5)=some (Vb Vd d0)/\u.cell? (a_ w.heap.size 6)=some (Vb Vd d1)/\u.cell? (a_ w.heap.size 7)=some (Vb Vd d2)/\u.cell? (a_ w.heap.size 8)=some (Vb Vd d3)/\u.cell? (a_ w.heap.size 9)=some (Vb Vd d4)/\u.cell? (a_ w.heap.size 10)=some (Vb Vd d5)/\u.cell? (a_ w.heap.size 11)=some (.slice sa n sc)/\u.cell? (a_ w.heap.size 12)=some (Vb Vf sv)) (by kernel_rfl) (HKS u2.drew (by exact HT0.2.1)) (fun hHeld=> ?_)
   obtain⟨x0,hx0⟩:∃x0,x0=u2.drew:=⟨_,rfl⟩
   have HTx0:Hid (Tm w (rD rep gF cl yo ne d0 d1 d2 d3 d4 d5 sa n sc sv) x0):=M0 (by rw[hx0];exact⟨HT0.1.drew,HT0.2.1,HT0.2.2⟩)
   rw[<-hx0]at hHeld ⊢
   clear hx0
   refine Vo (i:=0) (v:=(.agg (rD rep gF cl yo ne d0 d1 d2 d3 d4 d5 sa n sc sv))) rfl (by kernel_rfl) (by kernel_rfl) (by kernel_rfl) (fun _ _ _ h=>h) (au ⟨by rfl,?_⟩) hHeld ?_
   ·(intro wz hSz;(try dsimp only at hSz);go_simp)
   try simp only[Act.put,ae,ah,af]
   refine Vo (i:=2) (v:=(.agg (rD rep gF cl yo ne d0 d1 d2 d3 d4 d5 sa n sc sv))) rfl (by kernel_rfl) (by kernel_rfl) (by kernel_rfl) (fun _ _ _ h=>h) (au ⟨by rfl,?_⟩) hHeld ?_
   ·(intro wz hSz;(try dsimp only at hSz);go_simp)
   try simp only[Act.put,ae,ah,af]
   refine Vo (i:=5) (v:=(.agg (rD rep gF cl yo ne d0 d1 d2 d3 d4 d5 sa n sc sv))) rfl (by kernel_rfl) (by kernel_rfl) (by kernel_rfl) (fun _ _ _ h=>h) (au ⟨by rfl,?_⟩) hHeld ?_
   ·(intro wz hSz;(try dsimp only at hSz);go_simp)
   try simp only[Act.put,ae,ah,af]
   refine tkH_ (i:=7) (v:=(Vb Vf t)) rfl (by kernel_rfl) (fun _ _ _ h=>h) (au ⟨by rfl,?_⟩) hHeld ?_
   ·(intro wz hSz;(try dsimp only at hSz);go_simp)
   try simp only[Act.put,ae,ah,af]
   refine tkH_ (i:=8) (v:=(.bool en)) rfl (by kernel_rfl) (fun _ _ _ h=>h) (au ⟨by rfl,?_⟩) hHeld ?_
   ·(intro wz hSz;(try dsimp only at hSz);go_simp)
   try simp only[Act.put,ae,ah,af]
   refine tkH_ (i:=9) (v:=(Vb Vf t)) rfl (by kernel_rfl) (fun _ _ _ h=>h) (au ⟨by rfl,?_⟩) hHeld ?_
   ·(intro wz hSz;(try dsimp only at hSz);go_simp)
   try simp only[Act.put,ae,ah,af]
   have HT:=HTx0
   clear HTx0
   all_goals first
    |(refine wpAnyH_ready (rs:=[1,11]) (by decide+kernel) (by simp) ?_;refine AllReadyH.cons rfl (fun K hK=> ?_) (AllReadyH.cons rfl (fun K hK=> ?_) AllReadyH.nil))
    |(refine wpAnyH_ready (rs:=[1]) (by decide+kernel) (by simp) ?_;refine AllReadyH.cons rfl (fun K hK=> ?_) AllReadyH.nil)
   all_goals go_simp
   all_goals first
    |(refine bE (HMK _ HT.1) ?_;rintro ee x0 ⟨rfl,hb⟩;have HT:=M0 (HT.below hb);(try have HD:=M0 ((hb.block b (Vj HD)).trans HD));clear hb;go_wp2_with fail;clear hHeld;refine hK.out _ _ (HKS _ HT.2.1) (fun hHeld=> ?_);clear hK K;(try simp only[Act.put,ae,ah,af]))
    |(obtain⟨xa,b,hnew,hbb,HBB,HD,HT⟩:=HT.fresh;rw[<-hnew,<-hbb];clear hnew hbb;clear hHeld;refine hK.out _ _ (HKS _ HT.2.1) (fun hHeld=> ?_);clear hK K;(try simp only[Act.put,ae,ah,af]);refine wpAnyH_ready (rs:=[1]) (by kernel_rfl) (by simp) ?_;refine AllReadyH.cons rfl (fun K hK=> ?_) AllReadyH.nil;go_simp;refine bE (HMK _ HT.1) ?_;rintro ee x0 ⟨rfl,hb⟩;have HT:=M0 (HT.below hb);(try have HD:=M0 ((hb.block b (Vj HD)).trans HD));clear hb;go_wp2_with fail;clear hHeld;refine hK.out _ _ (HKS _ HT.2.1) (fun hHeld=> ?_);clear hK K;(try simp only[Act.put,ae,ah,af]))
   all_goals first
    |(refine wpAnyH_ready (rs:=[3,11]) (by decide+kernel) (by simp) ?_;refine AllReadyH.cons rfl (fun K hK=> ?_) (AllReadyH.cons rfl (fun K hK=> ?_) AllReadyH.nil))
    |(refine wpAnyH_ready (rs:=[3]) (by decide+kernel) (by simp) ?_;refine AllReadyH.cons rfl (fun K hK=> ?_) AllReadyH.nil)
   all_goals go_simp
   all_goals first
    |(refine bE (HO2 _ HT.1) ?_;rintro ee x0 ⟨rfl,hb⟩;have HT:=M0 (HT.below hb);(try have HD:=M0 ((hb.block b (Vj HD)).trans HD));clear hb;go_wp2_with fail;clear hHeld;refine hK.out _ _ (HKS _ HT.2.1) (fun hHeld=> ?_);clear hK K;(try simp only[Act.put,ae,ah,af]))
    |(obtain⟨xa,b,hnew,hbb,HBB,HD,HT⟩:=HT.fresh;rw[<-hnew,<-hbb];clear hnew hbb;clear hHeld;refine hK.out _ _ (HKS _ HT.2.1) (fun hHeld=> ?_);clear hK K;(try simp only[Act.put,ae,ah,af]);refine wpAnyH_ready (rs:=[3]) (by kernel_rfl) (by simp) ?_;refine AllReadyH.cons rfl (fun K hK=> ?_) AllReadyH.nil;go_simp;refine bE (HO2 _ HT.1) ?_;rintro ee x0 ⟨rfl,hb⟩;have HT:=M0 (HT.below hb);(try have HD:=M0 ((hb.block b (Vj HD)).trans HD));clear hb;go_wp2_with fail;clear hHeld;refine hK.out _ _ (HKS _ HT.2.1) (fun hHeld=> ?_);clear hK K;(try simp only[Act.put,ae,ah,af]))
   all_goals first
    |(refine wpAnyH_ready (rs:=[4,11]) (by decide+kernel) (by simp) ?_;refine AllReadyH.cons rfl (fun K hK=> ?_) (AllReadyH.cons rfl (fun K hK=> ?_) AllReadyH.nil))
    |(refine wpAnyH_ready (rs:=[4]) (by decide+kernel) (by simp) ?_;refine AllReadyH.cons rfl (fun K hK=> ?_) AllReadyH.nil)
   all_goals go_simp
   all_goals first
    |(refine bE (HFA _ HT.1) ?_;rintro ee x0 ⟨rfl,hb⟩;have HT:=M0 (HT.below hb);(try have HD:=M0 ((hb.block b (Vj HD)).trans HD));clear hb;go_wp2_with fail;clear hHeld;refine hK.out _ _ (HKS _ HT.2.1) (fun hHeld=> ?_);clear hK K;(try simp only[Act.put,ae,ah,af]))
    |(obtain⟨xa,b,hnew,hbb,HBB,HD,HT⟩:=HT.fresh;rw[<-hnew,<-hbb];clear hnew hbb;clear hHeld;refine hK.out _ _ (HKS _ HT.2.1) (fun hHeld=> ?_);clear hK K;(try simp only[Act.put,ae,ah,af]);refine wpAnyH_ready (rs:=[4]) (by kernel_rfl) (by simp) ?_;refine AllReadyH.cons rfl (fun K hK=> ?_) AllReadyH.nil;go_simp;refine bE (HFA _ HT.1) ?_;rintro ee x0 ⟨rfl,hb⟩;have HT:=M0 (HT.below hb);(try have HD:=M0 ((hb.block b (Vj HD)).trans HD));clear hb;go_wp2_with fail;clear hHeld;refine hK.out _ _ (HKS _ HT.2.1) (fun hHeld=> ?_);clear hK K;(try simp only[Act.put,ae,ah,af]))
   all_goals first
    |(refine wpAnyH_ready (rs:=[6,11]) (by decide+kernel) (by simp) ?_;refine AllReadyH.cons rfl (fun K hK=> ?_) (AllReadyH.cons rfl (fun K hK=> ?_) AllReadyH.nil))
    |(refine wpAnyH_ready (rs:=[6]) (by decide+kernel) (by simp) ?_;refine AllReadyH.cons rfl (fun K hK=> ?_) AllReadyH.nil)
   all_goals go_simp
   all_goals first
    |(refine bE (HIM _ HT.1) ?_;rintro ee x0 ⟨rfl,hb⟩;have HT:=M0 (HT.below hb);(try have HD:=M0 ((hb.block b (Vj HD)).trans HD));clear hb;go_wp2_with fail;clear hHeld;refine hK.out _ _ (HKS _ HT.2.1) (fun hHeld=> ?_);clear hK K;(try simp only[Act.put,ae,ah,af]))
    |(obtain⟨xa,b,hnew,hbb,HBB,HD,HT⟩:=HT.fresh;rw[<-hnew,<-hbb];clear hnew hbb;clear hHeld;refine hK.out _ _ (HKS _ HT.2.1) (fun hHeld=> ?_);clear hK K;(try simp only[Act.put,ae,ah,af]);refine wpAnyH_ready (rs:=[6]) (by kernel_rfl) (by simp) ?_;refine AllReadyH.cons rfl (fun K hK=> ?_) AllReadyH.nil;go_simp;refine bE (HIM _ HT.1) ?_;rintro ee x0 ⟨rfl,hb⟩;have HT:=M0 (HT.below hb);(try have HD:=M0 ((hb.block b (Vj HD)).trans HD));clear hb;go_wp2_with fail;clear hHeld;refine hK.out _ _ (HKS _ HT.2.1) (fun hHeld=> ?_);clear hK K;(try simp only[Act.put,ae,ah,af]))
   all_goals first
    |(refine wpAnyH_ready (rs:=[10,11]) (by decide+kernel) (by simp) ?_;refine AllReadyH.cons rfl (fun K hK=> ?_) (AllReadyH.cons rfl (fun K hK=> ?_) AllReadyH.nil))
    |(refine wpAnyH_ready (rs:=[10]) (by decide+kernel) (by simp) ?_;refine AllReadyH.cons rfl (fun K hK=> ?_) AllReadyH.nil)
   all_goals go_simp
   all_goals first
    |(clear hHeld;refine hK.out _ _ (HKS _ HT.2.1) (fun hHeld=> ?_);clear hK K;(try simp only[Act.put,ae,ah,af]))
    |(obtain⟨xa,b,hnew,hbb,HBB,HD,HT⟩:=HT.fresh;rw[<-hnew,<-hbb];clear hnew hbb;clear hHeld;refine hK.out _ _ (HKS _ HT.2.1) (fun hHeld=> ?_);clear hK K;(try simp only[Act.put,ae,ah,af]);refine wpAnyH_ready (rs:=[10]) (by kernel_rfl) (by simp) ?_;refine AllReadyH.cons rfl (fun K hK=> ?_) AllReadyH.nil;go_simp;clear hHeld;refine hK.out _ _ (HKS _ HT.2.1) (fun hHeld=> ?_);clear hK K;(try simp only[Act.put,ae,ah,af]))
   all_goals first
    |(refine wpAnyH_ready (rs:=[11]) (by decide+kernel) (by simp) ?_;refine AllReadyH.cons rfl (fun K hK=> ?_) AllReadyH.nil;go_simp;obtain⟨xa,b,hnew,hbb,HBB,HD,HT⟩:=HT.fresh;rw[<-hnew,<-hbb];clear hnew hbb;clear hHeld;refine hK.out _ _ (HKS _ HT.2.1) (fun hHeld=> ?_);clear hK K;(try simp only[Act.put,ae,ah,af]))
    |skip
   all_goals
    refine wpAnyH_ready (rs:=[12]) (by kernel_rfl) (by simp) ?_
    refine AllReadyH.cons rfl (fun K hK=> ?_) AllReadyH.nil
    rw[ay (by rfl)]
    refine wp_store_row 109 (.tmp 6) (.tmp 30) rfl b (rG mk ro im en 0 0 t) rfl rfl 109 _ HD (by kernel_rfl) (by kernel_rfl) (by kernel_rfl) ?_
    clear hHeld
    refine hK.out _ _ (HKS _ (HT.set b HBB _).2.1) (fun hHeld=> ?_)
    clear hK K
    try simp only[Act.put,ae,ah,af]
    refine VG (by kernel_rfl) ?_ _
    clear hHeld
    go_wp2
    go_meet
    exact⟨b,rfl,M0 ⟨HT.set b HBB _,VB _ _ _ _ _ _ HD,HBB⟩⟩
 case rest=>
  rename fV=>wc
  obtain⟨b,rfl,HC⟩:=hcut
  have HTc:=M0 HC.1
  have HRr:=M0 HC.1.2.1
  clear HO2 HMK HFA HIM HKS HT0
  go_wp2_with (refine VO rfl 269 (.tmp 1) rfl w.heap.size rfl 269 _ (0,0) _ HRr wh rfl (by kernel_rfl) ?_)
  refine(HAG _ HTc.1).mono ?_
  rintro ee u5 ⟨rfl,hb5⟩
  have HT5:=M0 (HTc.below hb5)
  have hr5:u5.heap[b]?=some (.cells (rG mk ro im en 0 0 t) 109 (0,0)):=(hb5.block b (Vj HC.2.1)).trans HC.2.1
  have HLB:=M0 HC.2.2
  have y4:u5.cell? (a_ b 4)=some (Vb Vf 0):=dh u5 b 4 _ _ _ hr5
  have g4:u5.frozen? (a_ b 4)=false:=by simp[World.frozen?,hr5]
  have e4:u5.setCell (a_ b 4) (Vb Vf p)=u5.setRow b (rG mk ro im en p 0 t):=VD u5 b 4 _ _ _ _ hr5
  have hr6:(u5.setCell (a_ b 4) (Vb Vf p)).heap[b]?=some (.cells (rG mk ro im en p 0 t) 109 (0,0)):=by rw[e4];exact VB _ _ _ _ _ _ hr5
  have y5:(u5.setCell (a_ b 4) (Vb Vf p)).cell? (a_ b 5)=some (Vb Vf 0):=dh _ b 5 _ _ _ hr6
  have g5:(u5.setCell (a_ b 4) (Vb Vf p)).frozen? (a_ b 5)=false:=by simp only[World.frozen?,hr6];rfl
  have e5:(u5.setCell (a_ b 4) (Vb Vf p)).setCell (a_ b 5) (Vb Vf q)=(u5.setCell (a_ b 4) (Vb Vf p)).setRow b (rG mk ro im en p q t):=VD _ b 5 _ _ _ _ hr6
  have HR7:Hid (((u5.setCell (a_ b 4) (Vb Vf p)).setCell (a_ b 5) (Vb Vf q)).heap[b]?=some (.cells (rG mk ro im en p q t) 109 (0,0))):=M0 (by rw[e5];exact VB _ _ _ _ _ _ hr6)
  have HT7:Hid (Tm w (rD rep gF cl yo ne d0 d1 d2 d3 d4 d5 sa n sc sv) ((u5.setCell (a_ b 4) (Vb Vf p)).setCell (a_ b 5) (Vb Vf q))):=M0 (by rw[e5,e4];exact(HT5.set b HLB _).set b HLB _)
  have HRS:=M0 HT7.2.2
  clear hb5 hr5 hr6 e4 e5 HTc HRr HC HT5 HAG
  go_wp2_with (first|(refine VO rfl 109 (.tmp 6) rfl b rfl 109 _ (0,0) _ HR7 underlying109 rfl (by kernel_rfl) ?_)|(refine wpList_store_row rfl 109 (.tmp 2) (.tmp 39) rfl (w.heap.size+1) (rG mk ro im en p q t) rfl rfl 109 _ HRS (by kernel_rfl) (by kernel_rfl) (by kernel_rfl) ?_))
  have hz:=VB _ _ _ (rG mk ro im en p q t) _ _ HRS
  have HF:=M0 (below_setRow HT7.1 (show w.heap.size<=w.heap.size+1 by omega) (rG mk ro im en p q t))
  obtain⟨W,hW⟩:∃W,W=((u5.setCell (a_ b 4) (Vb Vf p)).setCell (a_ b 5) (Vb Vf q)).setRow (w.heap.size+1) (rG mk ro im en p q t):=⟨_,rfl⟩
  rw[<-hW]at hz HF ⊢
  clear hW
  have z0:W.cell? (a_ (w.heap.size+1) 0)=some (Vb Vf mk):=dh W _ 0 _ _ _ hz
  have z1:W.cell? (a_ (w.heap.size+1) 1)=some (Vb Vf ro):=dh W _ 1 _ _ _ hz
  have z2:W.cell? (a_ (w.heap.size+1) 2)=some (Vb Vf im):=dh W _ 2 _ _ _ hz
  have z3:W.cell? (a_ (w.heap.size+1) 3)=some (.bool en):=dh W _ 3 _ _ _ hz
  have z4:W.cell? (a_ (w.heap.size+1) 4)=some (Vb Vf p):=dh W _ 4 _ _ _ hz
  have z5:W.cell? (a_ (w.heap.size+1) 5)=some (Vb Vf q):=dh W _ 5 _ _ _ hz
  have z6:W.cell? (a_ (w.heap.size+1) 6)=some (Vb Vf t):=dh W _ 6 _ _ _ hz
  clear hz
  first|(refine Vl (v:=.tuple #[.agg (rG mk ro im en p q t),.bool true]) (by simp[results,results289,go_sem,z0,z1,z2,z3,z4,z5,z6]) rfl ?_;exact⟨rfl,HF⟩)|(go_returns;exact⟨rfl,HF⟩)
end yJ
end Go.Proofs.YtdgacidndknceaaGreatDoor
