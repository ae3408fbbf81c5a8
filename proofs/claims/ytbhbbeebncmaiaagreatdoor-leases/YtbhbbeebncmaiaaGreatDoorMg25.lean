import Derived.Test.YtbhbbeebncmaiaaGreatDoorMg05
import Derived.Test.YtbhbbeebncmaiaaGreatDoorMg10
set_option linter.all false
set_option maxHeartbeats 4000000
set_option maxRecDepth 10000
open Go.ChangeShapes Go.WideShapes Go.ChangeAt Go.RowKit
open Go renaming World → fV, Calls → f_
open Go.RowKit renaming Below → gm
open Go.Proofs.Tryz renaming prog → Vh
open Go.Value renaming int → Vb
open Go.IntKind renaming u8 → Vd, u16 → Ve, u32 → Vf, i64 → Vg
open Go.Proofs.Tryz
namespace Go.Proofs.YtbhbbeebncmaiaaGreatDoor
namespace Ref
open Bs Js
variable{w0:fV} {P:Nat→Prop} {w w':fV} {G:Nat} {r r':Rf}
theorem RI{w u:fV}{c:Array Value}{r:Rf}{g:Nat}(hb:gm w.heap.size w u)(hG:g=u.heap.size)(hc:c=r.cells)(e1:r.rv=.slice none 0 0)(e2:r.tv=.slice none 0 0)(e3:r.rl=[])(e4:r.tl=[])(hng:9<=w.heap.size)(hgl:Gr w):Rm w (fun _=>False) (u.alloc (.cells c 57)) g r:=by
 subst hG hc
 exact
 {os:=hb.os,tape:=hb.tape,output:=hb.output
  size:=by have:=hb.size;simp;omega
  kept:=fun k hk _=>(Vi u _ k (by have:=hb.size;omega)).trans (hb.block k hk)
  own:=fun k hk=>by
   rcases hk with rfl|hk|hk
   ·exact aA hb.size
   ·rw[e1]at hk;cases hk
   ·rw[e2]at hk;cases hk
  low:=⟨hng,fun k hk=>hk.elim⟩,gl:=hgl
  row:=G8 u _
  came:=by rw[e1,e3];exact Vp _ _ _ _
  goes:=by rw[e2,e4];exact Vp _ _ _ _
  apart:=fun k hk=>by rw[e1]at hk;cases hk}
theorem jK{w:fV}{base n size:Nat}{e:TypeId}{v:Value}{xs:List Value}(h:w.ownsRow base e size v n xs):∃ao cp,v=.slice ao n cp:=by
 rcases h.2 with⟨rfl,rfl⟩|⟨g,cap,cur,rfl,_⟩
 ·exact⟨none,0,rfl⟩
 ·exact⟨some (a_ g 0),cap,rfl⟩
theorem jv{w:fV}{base n size:Nat}{e:TypeId}{v:Value}{xs:List Value}(h:w.ownsRow base e size v n xs)(hn:0<n):∃g cp,v=.slice (some (a_ g 0)) n cp/\n<=cp/\cp<=maxLen/\∀j x,xs[j]?=some x->w.cell? (a_ g j)=some x:=by
 have h':=h
 rcases h.2 with⟨rfl,rfl⟩|⟨g,cap,cur,rfl,a,b,c,d,_⟩
 ·exact absurd hn (by omega)
 ·refine⟨g,cap,rfl,c,d,fun j x hj=> ?_⟩
  have:=h'.cells (g:=g) rfl j x hj
  rwa [show((a_ g 0):Addr).add j=(a_ g j)from by simp[Addr.add_lit]]at this
theorem Rm.after(h:Rm w0 P w G r){o:Option Nat}(hg:w.grownBy w' o)(ho:o=none∨o=r.rv.ownBlock∨o=r.tv.ownBlock):w'.heap[G]?=w.heap[G]?:=
 hg.block G h.lt (by
  rintro e
  rcases ho with ho|ho|ho
  ·rw[ho]at e;cases e
  ·exact h.D_ (k:=G) (by rw[<-ho,<-e]) rfl
  ·exact h.FI (k:=G) (by rw[<-ho,<-e]) rfl)
def Rf.Mi(r:Rf)(s:ByteArray)(v:Value):Rf:={r with rv:=v,rl:=r.rl++ [s]}
theorem Nb(h:Rm w0 P w G r)(s:ByteArray)(hr:r.rl.length=r.rx):f_ Vh 18 #[p_ G,.string s] w fun ee w'=>ee=.returned (.bool false)/\Rm w0 P w' G r:=by
 obtain⟨ao,cp,hv⟩:=jK h.came
 have c12:=h.c12
 have c14:=h.c14
 rw[hv]at c14
 have HM:=gu h
 have hq:((r.rl.length:Int)==(r.rx:Int))=true:=by simp[hr]
 clear h hv
 go_enter func18,ntmps18
 go_wp2
 go_quiet (fail)
 go_wp2
 go_ret
 exact⟨rfl,HM.like ⟨rfl,rfl,rfl,rfl⟩⟩
theorem Mr(h:Rm w0 P w G r)(s:ByteArray)(hr:r.rl.length<r.rx)(hx:r.rx<=16):f_ Vh 18 #[p_ G,.string s] w fun ee w'=>ee=.returned (.bool true)/\∃v,Rm w0 P w' G (r.Mi s v):=by
 obtain⟨i0,hi,hz0,hz1,hz2⟩:=Vx wW
 obtain⟨ao,cp,hv⟩:=jK h.came
 have c12:=h.c12
 have c14:=h.c14
 have f14:=h.free 14
 have HV:=gu hv
 rw[hv]at c14
 have HM:=gu h
 have hq:((r.rl.length:Int)==(r.rx:Int))=false:=by rw[aD];omega
 have hlen:r.rl.length<=16:=by omega
 clear h hv hr hx
 go_enter func18,ntmps18
 go_wp2
 go_quiet (fail)
 obtain⟨u,hu⟩:∃u,u=w.drewN nq:=⟨_,rfl⟩
 have HMu:Hid (Rm w0 P u G r):=gu (by rw[hu];exact HM.like ⟨rfl,rfl,rfl,rfl⟩)
 rw[<-hu]
 have d14:=HMu.c14
 rw[gB HV]at d14
 have g14:=HMu.free 14
 clear hu c12 c14 f14 HM
 go_wp2_with (at_builtin;refine h_ rfl (.tmp 20) (.tmp 22) 49 rfl 0 9 i0 (.string ⟨#[]⟩) 1 16 bX hi hz0 hz1 hz2 rfl (by decide) r.rv r.rl.length (strs r.rl) ?ev (HMu.came.alloc _) (a_ u.heap.size 0) 1 1 [.string s] ?ad rfl ?c1 ?one ?h63 ?hby ?hba ?_)
 case ev=>rw[gB HV];rfl
 case ad=>rfl
 case c1=>exact iW u [.string s] 9
 case one=>intro x hx;simp at hx;subst hx;rfl
 case h63=>simp only[maxLen];omega
 case hby=>omega
 case hba=>exact aN _
 intro v' w2 hown hg hf
 have HA:=HMu.alloc (.cells #[.string s] 9)
 have hrow:=HA.after hg (aA (au rfl))
 have e14:=(Vk (w:=u.alloc (.cells #[.string s] 9)) (a:=(a_ G 14)) hrow).trans HA.c14
 have k14:=(VJ (w:=u.alloc (.cells #[.string s] 9)) (a:=(a_ G 14)) hrow).trans (HA.free 14)
 have HN:=gu (HA.rows (r':=r.Mi s v') (l:=r.rl++ [s]) hg (aA rfl) (by
  have e1:(r.rl++ [s]).length=r.rl.length+1:=by simp
  have e2:strs (r.rl++ [s])=strs r.rl++ [.string s]:=by simp[strs]
  rw[e1,e2];exact hown) (by
   rcases hf with h|h
   ·exact aA (au h)
   ·obtain⟨g,a,b⟩:=h
    exact aA (aA ⟨g,a,by simpa using b⟩)) rfl rfl rfl rfl rfl)
 obtain⟨a2,c2,hv2⟩:=jK hown
 clear hown hg hf HA hrow d14 g14
 subst hv2
 go_wp2
 go_ret
 exact⟨rfl,_,HN⟩
theorem qp(h:Rm w0 P w G r)(hp:r.phase=0):f_ Vh 37 #[p_ G] w fun ee w'=>ee=.returned (.bool false)/\w'=w:=by
 have c34:=h.c34
 rw[hp]at c34
 clear h
 go_enter func37,ntmps37
 go_wp2
 go_ret
 exact⟨rfl,rfl⟩
theorem BH(h:Rm w0 P w G r)(ht:r.tl=[]):f_ Vh 20 #[p_ G] w fun ee w'=>ee=.returned (.tuple #[.string ⟨#[]⟩,.bool false])/\w'=w:=by
 obtain⟨ao,cp,hv⟩:=jK h.goes
 have c15:=h.c15
 rw[hv,ht]at c15
 clear h hv ht
 go_enter func20,ntmps20
 go_wp2
 go_ret2
 exact⟨rfl,rfl⟩
def Rf.jA(r:Rf)(k:Nat)(v:Value):Rf:={r with rv:=v,rl:=r.rl.drop k}
end Ref
namespace gP
open Bs Rd
theorem other{w:fV}{B:Nat}{l:List UInt8}(h:iL w B l){a:Addr}(ha:B≠a.block)(v:Value):iL (w.setCell a v) B l:=by
 unfold iL at*;rw[R8 _ _ _ _ ha];exact h
theorem gN{a w:fV}{r:Option Nat}(h:a.grownBy w r){p:Addr}(hp:a.heap.size<=p.block)(v:Value):a.grownBy (w.setCell p v) r:=
 ⟨h.os,h.tape,h.output,by simpa[World.setCell]using h.size,fun k hk hr=>by rw[R8 _ _ _ _ (by omega)];exact h.block k hk hr⟩
theorem gD{w:fV}{g j:Nat}{c:Array Value}{t:TypeId}{v:Value}(h:w.heap[g]?=some (.cells c t (0,0)))(hj:c[j]?=some v):w.cell? (a_ g j)=some v:=by
 rw[HY w g j c t (0,0) h];exact hj
theorem gM{w:fV}{g:Nat}{c:Array Value}{t:TypeId}(h:w.heap[g]?=some (.cells c t (0,0))):∀j,w.frozen? (a_ g j)=false:=fun j=>by simp[World.frozen?,h]
theorem gI{w:fV}{g:Nat}{c:Array Value}{t:TypeId}(h:w.heap[g]?=some (.cells c t (0,0)))(j:Nat)(v:Value):(w.setCell (a_ g j) v).heap[g]?=some (.cells (c.setIfInBounds j v) t (0,0)):=by
 have hlt:=Vj h
 have h':w.heap[g]=.cells c t (0,0):=by simpa[aY hlt]using h
 show(w.heap.modify g _)[g]?=_
 rw[aY (by simpa using hlt),dI,h']
 rfl
theorem sixth(l:List UInt8)(h:6<=l.length):∃a b c d e f r,l=a::b::c::d::e::f::r:=by
 match l,h with
 |a::b::c::d::e::f::r,_=>exact⟨a,b,c,d,e,f,r,rfl⟩
theorem second(l:List UInt8)(h:2<=l.length):∃a b r,l=a::b::r:=by
 match l,h with
 |a::b::r,_=>exact⟨a,b,r,rfl⟩
end gP
namespace Rd
open Bs
structure VS (T:TypeId) (z:Array Value) (w:fV) (B V:Nat) (u:fV) (l:List UInt8) (cs:Array Value):Prop where
 lo:B<w.heap.size
 lv:w.heap.size<V
 D8:iL u B l
 grown:w.grownBy u (some B)
 res:u.heap[w.heap.size]?=some (.cells z T (0,0))
 var:u.heap[V]?=some (.cells cs T (0,0))
variable{T:TypeId} {z cs cs':Array Value} {w u u2:fV} {B V:Nat} {l l2:List UInt8}
theorem VS.start(T:TypeId)(z:Array Value)(h:iL w B l):VS T z w B (w.heap.size+1) ((w.alloc (.cells z T)).alloc (.cells z T)) l z:=
 ⟨h.lt,Nat.lt_succ_self _,(h.alloc _).alloc _,gV (gV (il _ _) _) _,by rw[Vi _ _ _ (by simp)];exact G8 w _,by
  have q:=G8 (w.alloc (.cells z T)) (.cells z T)
  rw[show(w.alloc (.cells z T)).heap.size=w.heap.size+1 by simp]at q
  exact q⟩
theorem VS.make(h0:B<w.heap.size)(h:iL u B l)(hg:w.grownBy u (some B))(hr:u.heap[w.heap.size]?=some (.cells z T (0,0))):VS T z w B u.heap.size (u.alloc (.cells z T)) l z:=
 ⟨h0,Vj hr,h.alloc _,gV hg _,by rw[Vi _ _ _ (Vj hr)];exact hr,G8 u _⟩
theorem VS.next(h:VS T z w B V u l cs)(hr:iL u2 B l2)(hg:u.grownBy u2 (some B)):VS T z w B V u2 l2 cs:=
 ⟨h.lo,h.lv,hr,gH h.grown hg,(hg.block _ (Vj h.res) (by have:=h.lo;have:=h.lv;simp;omega)).trans h.res,(hg.block _ (Vj h.var) (by have:=h.lo;have:=h.lv;simp;omega)).trans h.var⟩
theorem VS.set(h:VS T z w B V u l cs)(j:Nat)(v:Value):VS T z w B V (u.setCell (a_ V j) v) l (cs.setIfInBounds j v):=
 ⟨h.lo,h.lv,gP.other h.D8 (by have:=h.lo;have:=h.lv;simp;omega) _,gP.gN h.grown (aK h.lv) _,by rw[R8 _ _ _ _ (by have:=h.lv;simp;omega)];exact h.res,gP.gI h.var j v⟩
def N8(u:fV)(b:Nat):List (Nat×Value)->fV
 |[]=>u
 |p::r=>N8 (u.setCell (a_ b p.1) p.2) b r
def SH(c:Array Value):List (Nat×Value)->Array Value
 |[]=>c
 |p::r=>SH (c.setIfInBounds p.1 p.2) r
theorem VS.sets(h:VS T z w B V u l cs)(ps:List (Nat×Value))(e:SH cs ps=cs'):VS T z w B V (N8 u V ps) l cs':=by
 induction ps generalizing u cs with
 |nil=>exact e▸h
 |cons p r ih=>exact ih (h.set p.1 p.2) e
theorem VS.free(h:VS T z w B V u l cs):(∀j,u.frozen? (a_ V j)=false)/\∀j,u.frozen? (a_ w.heap.size j)=false:=⟨gP.gM h.var,gP.gM h.res⟩
theorem VS.done(h:VS T z w B V u l cs)(ps:List (Nat×Value)):w.grownBy (N8 u w.heap.size ps) (some B):=by
 have:∀(ps:List (Nat×Value)) (u:fV),w.grownBy u (some B)->w.grownBy (N8 u w.heap.size ps) (some B):=fun ps=>by
  induction ps with
  |nil=>exact fun u hu=>hu
  |cons p r ih=>exact fun u hu=>ih _ (gP.gN hu (ai _) _)
 exact this ps u h.grown
theorem VS.below(h:VS T z w B V u l cs)(hb:gm u.heap.size u u2):VS T z w B V u2 l cs:=
 ⟨h.lo,h.lv,(hb.block _ (Vj h.D8)).trans h.D8,jh h.grown hb,(hb.block _ (Vj h.res)).trans h.res,(hb.block _ (Vj h.var)).trans h.var⟩
end Rd
namespace gP
open Bs Rd
def FC(l:List UInt8)(B:Nat)(w:fV)(ee:Ending)(w':fV):Prop:=w.grownBy w' (some B)/\match l with
 |a::b::c::d::e::f::a'::b'::c'::d'::e'::f'::t::t'::r=>if og.o9 (256*(t.toNat:Int)+(t'.toNat:Int))=false then ee=.panicked (iH 3)else if og.ko ⟨r.toArray⟩=false then ee=.panicked (iH 7)else ee=.returned (.agg (rE a.toNat b.toNat c.toNat d.toNat e.toNat f.toNat a'.toNat b'.toNat c'.toNat d'.toNat e'.toNat f'.toNat (256*(t.toNat:Int)+(t'.toNat:Int)) ⟨r.toArray⟩))
 |_=>ee=.panicked (iH 1)
theorem zL{u:fV}{g:Nat}{t:TypeId}{b0 b1 b2 b3 b4 b5 b6 b7 b8 b9 b10 b11 b12 b13:Value}(h:u.heap[g]?=some (.cells #[b0,b1,b2,b3,b4,b5,b6,b7,b8,b9,b10,b11,b12,b13] t (0,0))):
  u.cell? (a_ g 0)=some b0/\u.cell? (a_ g 1)=some b1/\u.cell? (a_ g 2)=some b2/\u.cell? (a_ g 3)=some b3/\u.cell? (a_ g 4)=some b4/\u.cell? (a_ g 5)=some b5/\u.cell? (a_ g 6)=some b6/\u.cell? (a_ g 7)=some b7/\u.cell? (a_ g 8)=some b8/\u.cell? (a_ g 9)=some b9/\u.cell? (a_ g 10)=some b10/\u.cell? (a_ g 11)=some b11/\u.cell? (a_ g 12)=some b12/\u.cell? (a_ g 13)=some b13:=by
 have q:=fun j=>HY u g j _ _ _ h
 exact⟨q 0,q 1,q 2,q 3,q 4,q 5,q 6,q 7,q 8,q 9,q 10,q 11,q 12,q 13⟩
theorem xu{l:List UInt8}{B:Nat}{w w':fV}(hg:w.grownBy w' (some B))(h:l.length<14):FC l B w (.panicked (iH 1)) w':=by
 refine⟨hg,?_⟩
 split
 ·simp only[aj]at h;omega
 ·rfl
theorem NC{a b c d e f a' b' c' d' e' f' t t':UInt8}{r:List UInt8}{B:Nat}{w w':fV}(hg:w.grownBy w' (some B))(ht:og.o9 (256*(t.toNat:Int)+(t'.toNat:Int))=false):FC (a::b::c::d::e::f::a'::b'::c'::d'::e'::f'::t::t'::r) B w (.panicked (iH 3)) w':=by
 refine⟨hg,?_⟩
 show ite _ _ _
 rw[ay ht]
theorem Em{a b c d e f a' b' c' d' e' f' t t':UInt8}{r:List UInt8}{B:Nat}{w w':fV}{ee:Ending}(hg:w.grownBy w' (some B))(ht:og.o9 (256*(t.toNat:Int)+(t'.toNat:Int))=true)(he:if og.ko ⟨r.toArray⟩=false then ee=.panicked (iH 7)else ee=.returned (.agg (rE a.toNat b.toNat c.toNat d.toNat e.toNat f.toNat a'.toNat b'.toNat c'.toNat d'.toNat e'.toNat f'.toNat (256*(t.toNat:Int)+(t'.toNat:Int)) ⟨r.toArray⟩))):FC (a::b::c::d::e::f::a'::b'::c'::d'::e'::f'::t::t'::r) B w ee w':=by
 refine⟨hg,?_⟩
 show ite _ _ _
 rw[ax (by rw[ht];decide)]
 exact he
theorem Cr(B:Nat)(l:List UInt8)(w:fV)(h:iL w B l)(hs:l.length<=1099511627014):
  f_ Vh 139 #[p_ B] w fun ee w'=>FC l B w ee w':=by
 have S0:=gu (VS.start 111 zE_ h)
 clear h
 go_enter func139,ntmps139
 go_wp2_with fail
 by_cases h6:l.length<6
 ·refine(JG _ _ _ S0.D8 h6).mono ?_
  rintro ee v ⟨rfl,g⟩
  exact⟨rfl,xu (gH S0.grown g) (by omega)⟩
 obtain⟨a,b,c,d,e,f,l,rfl⟩:=sixth l (by omega)
 refine(tZ _ _ _ _ _ _ _ _ _ S0.D8 (by simp only[aj,maxLen]at*;omega)).mono ?_
 rintro ee w1 ⟨rfl,h1,g1⟩
 have S1:=gu (S0.next h1 g1)
 have S2:=gu (S1.sets [(0,Vb Vd a.toNat),(1,Vb Vd b.toNat),(2,Vb Vd c.toNat),(3,Vb Vd d.toNat),(4,Vb Vd e.toNat),(5,Vb Vd f.toNat)] (cs':=(rE a.toNat b.toNat c.toNat d.toNat e.toNat f.toNat 0 0 0 0 0 0 0 ⟨#[]⟩)) rfl)
 obtain⟨x0,x1,x2,x3,x4,x5,x6,x7,x8,x9,x10,x11,x12,x13⟩:=zL S1.var
 have f1:=S1.free.1
 clear h1 g1 S0 S1 h6
 go_wp2_with fail
 by_cases h6:l.length<6
 ·refine(JG _ _ _ S2.D8 h6).mono ?_
  rintro ee v ⟨rfl,g⟩
  exact⟨rfl,xu (gH S2.grown g) (by simp only[aj];omega)⟩
 obtain⟨a',b',c',d',e',f',l,rfl⟩:=sixth l (by omega)
 refine(tZ _ _ _ _ _ _ _ _ _ S2.D8 (by simp only[aj,maxLen]at*;omega)).mono ?_
 rintro ee w2 ⟨rfl,h1,g1⟩
 clear x0 x1 x2 x3 x4 x5 x6 x7 x8 x9 x10 x11 x12 x13 f1 h6
 have S3:=gu (S2.next h1 g1)
 have S4:=gu (S3.sets [(6,Vb Vd a'.toNat),(7,Vb Vd b'.toNat),(8,Vb Vd c'.toNat),(9,Vb Vd d'.toNat),(10,Vb Vd e'.toNat),(11,Vb Vd f'.toNat)] (cs':=(rE a.toNat b.toNat c.toNat d.toNat e.toNat f.toNat a'.toNat b'.toNat c'.toNat d'.toNat e'.toNat f'.toNat 0 ⟨#[]⟩)) rfl)
 obtain⟨x0,x1,x2,x3,x4,x5,x6,x7,x8,x9,x10,x11,x12,x13⟩:=zL S3.var
 have f1:=S3.free.1
 clear h1 g1 S2 S3
 go_wp2_with fail
 by_cases h2:l.length<2
 ·refine(BC _ _ _ S4.D8 h2).mono ?_
  rintro ee v ⟨rfl,g⟩
  exact⟨rfl,xu (gH S4.grown g) (by simp only[aj];omega)⟩
 obtain⟨t,t',r,rfl⟩:=second l (by omega)
 cases ht:og.o9 (256*(t.toNat:Int)+(t'.toNat:Int))with
 |false=>
  refine(Ho _ _ _ _ _ S4.D8 (by simp only[aj,maxLen]at*;omega) ht).mono ?_
  rintro ee v ⟨rfl,g⟩
  exact⟨rfl,NC (gH S4.grown g) ht⟩
 |true=>
  have HT:=gu (I4 _ _ _ _ _ S4.D8 (by simp only[aj,maxLen]at*;omega) ht)
  obtain⟨x,hx⟩:∃x,x=(256*(t.toNat:Int)+(t'.toNat:Int)):=⟨_,rfl⟩
  rw[<-hx]at HT
  have HX:=gu hx
  have HTY:=gu ht
  clear hx ht h2
  refine HT.mono ?_
  rintro ee w3 ⟨rfl,h1,g1⟩
  clear x0 x1 x2 x3 x4 x5 x6 x7 x8 x9 x10 x11 x12 x13 f1 HT
  have S5:=gu (S4.next h1 g1)
  have S6:=gu (S5.sets [(12,Vb Ve x)] (cs':=(rE a.toNat b.toNat c.toNat d.toNat e.toNat f.toNat a'.toNat b'.toNat c'.toNat d'.toNat e'.toNat f'.toNat x ⟨#[]⟩)) rfl)
  obtain⟨x0,x1,x2,x3,x4,x5,x6,x7,x8,x9,x10,x11,x12,x13⟩:=zL S5.var
  have f1:=S5.free.1
  clear h1 g1 S4 S5
  go_wp2_with fail
  cases hl:og.ko ⟨r.toArray⟩with
  |false=>
   refine(Gz _ _ _ S6.D8 (by simp only[aj]at hs;omega) hl).mono ?_
   rintro ee v ⟨rfl,g⟩
   exact⟨rfl,Em (gH S6.grown g) HTY (by rw[ay hl])⟩
  |true=>
   refine(IL _ _ _ S6.D8 (by simp only[aj]at hs;omega) hl).mono ?_
   rintro ee w4 ⟨rfl,h1,g1⟩
   have HLD:=gu hl
   clear x0 x1 x2 x3 x4 x5 x6 x7 x8 x9 x10 x11 x12 x13 f1 hl
   have S7:=gu (S6.next h1 g1)
   have HG:=gu ((S7.set 13 (.string ⟨r.toArray⟩)).done [(0,Vb Vd a.toNat),(1,Vb Vd b.toNat),(2,Vb Vd c.toNat),(3,Vb Vd d.toNat),(4,Vb Vd e.toNat),(5,Vb Vd f.toNat),(6,Vb Vd a'.toNat),(7,Vb Vd b'.toNat),(8,Vb Vd c'.toNat),(9,Vb Vd d'.toNat),(10,Vb Vd e'.toNat),(11,Vb Vd f'.toNat),(12,Vb Ve x),(13,.string ⟨r.toArray⟩)])
   obtain⟨x0,x1,x2,x3,x4,x5,x6,x7,x8,x9,x10,x11,x12,x13⟩:=zL S7.var
   obtain⟨y0,y1,y2,y3,y4,y5,y6,y7,y8,y9,y10,y11,y12,y13⟩:=zL S7.res
   obtain⟨f1,f2⟩:=S7.free
   clear h1 g1 S6 S7
   go_wp2
   refine Vl (v:=.agg (rE a.toNat b.toNat c.toNat d.toNat e.toNat f.toNat a'.toNat b'.toNat c'.toNat d'.toNat e'.toNat f'.toNat x ⟨r.toArray⟩)) (by simp[results,results139,go_sem,x0,x1,x2,x3,x4,x5,x6,x7,x8,x9,x10,x11,x12,x13,y0,y1,y2,y3,y4,y5,y6,y7,y8,y9,y10,y11,y12,y13,f1,f2]) rfl ?_
   exact Em HG HTY (by rw[ax (by rw[gB HLD];decide),gB HX])
theorem FC.short{l:List UInt8}{B:Nat}{w w':fV}{ee:Ending}(h:FC l B w ee w')(hl:l.length<14):ee=.panicked (iH 1)/\w.grownBy w' (some B):=by
 refine⟨?_,h.1⟩
 have q:=h.2
 split at q
 ·simp only[aj]at hl;omega
 ·exact q
theorem FC.out{a b c d e f a' b' c' d' e' f' t t':UInt8}{r:List UInt8}{B:Nat}{w w':fV}{ee:Ending}(h:FC (a::b::c::d::e::f::a'::b'::c'::d'::e'::f'::t::t'::r) B w ee w'):if og.o9 (256*(t.toNat:Int)+(t'.toNat:Int))=false then ee=.panicked (iH 3)else if og.ko ⟨r.toArray⟩=false then ee=.panicked (iH 7)else ee=.returned (.agg (rE a.toNat b.toNat c.toNat d.toNat e.toNat f.toNat a'.toNat b'.toNat c'.toNat d'.toNat e'.toNat f'.toNat (256*(t.toNat:Int)+(t'.toNat:Int)) ⟨r.toArray⟩)):=h.2
theorem mJ(B:Nat)(l:List UInt8)(w:fV)(h:iL w B l)(hn:l.length<14):f_ Vh 139 #[p_ B] w fun ee w'=>ee=.panicked (iH 1)/\w.grownBy w' (some B):=
 (Cr B l w h (by omega)).mono fun _ _ q=>q.short hn
section
variable(B:Nat) (a b c d e f a' b' c' d' e' f' t t':UInt8) (l:List UInt8) (w:fV) (h:iL w B (a::b::c::d::e::f::a'::b'::c'::d'::e'::f'::t::t'::l)) (hs:l.length≤1099511627000)
include h hs
theorem zO{Q:Ending->Prop}(hQ:∀ee,(if og.o9 (256*(t.toNat:Int)+(t'.toNat:Int))=false then ee=.panicked (iH 3)else if og.ko ⟨l.toArray⟩=false then ee=.panicked (iH 7)else ee=.returned (.agg (rE a.toNat b.toNat c.toNat d.toNat e.toNat f.toNat a'.toNat b'.toNat c'.toNat d'.toNat e'.toNat f'.toNat (256*(t.toNat:Int)+(t'.toNat:Int)) ⟨l.toArray⟩)))->Q ee):f_ Vh 139 #[p_ B] w fun ee w'=>Q ee/\w.grownBy w' (some B):=
 (Cr B _ w h (by simp only[aj];omega)).mono fun ee _ q=>⟨hQ ee q.out,q.1⟩
theorem uU(ht:og.o9 (256*(t.toNat:Int)+(t'.toNat:Int))=false):f_ Vh 139 #[p_ B] w fun ee w'=>ee=.panicked (iH 3)/\w.grownBy w' (some B):=zO B a b c d e f a' b' c' d' e' f' t t' l w h hs fun ee q=>by rwa [ay ht]at q
theorem vF(ht:og.o9 (256*(t.toNat:Int)+(t'.toNat:Int))=true)(hl:og.ko ⟨l.toArray⟩=false):f_ Vh 139 #[p_ B] w fun ee w'=>ee=.panicked (iH 7)/\w.grownBy w' (some B):=zO B a b c d e f a' b' c' d' e' f' t t' l w h hs fun ee q=>by rwa [ax (by rw[ht];decide),ay hl]at q
theorem Ad(ht:og.o9 (256*(t.toNat:Int)+(t'.toNat:Int))=true)(hl:og.ko ⟨l.toArray⟩=true):f_ Vh 139 #[p_ B] w fun ee w'=>ee=.returned (.agg (rE a.toNat b.toNat c.toNat d.toNat e.toNat f.toNat a'.toNat b'.toNat c'.toNat d'.toNat e'.toNat f'.toNat (256*(t.toNat:Int)+(t'.toNat:Int)) ⟨l.toArray⟩))/\w.grownBy w' (some B):=zO B a b c d e f a' b' c' d' e' f' t t' l w h hs fun ee q=>by rwa [ax (by rw[ht];decide),ax (by rw[hl];decide)]at q
end
end gP
namespace gP
open Bs Rd
theorem jE(k:Int)(w:fV):(Instr.typeAssert (.iface 58 (Vb Vg k)) 20 58 false).run Vh w=.ok (Vb Vg k) w:=by kernel_rfl
theorem jf(p:Addr)(x k:Int)(older:List PanicEntry)(w:fV)(hc:w.cell? p=some (Vb Vg x))(hz:w.frozen? p=false):
  CallsD Vh 159 #[.pointer (some p)] (.panicking ({v:=.iface 58 (Vb Vg k),recovered:=false}::older)) w fun e u' w'=>
   e=.returned (.tuple #[])/\u'=.panicking ({v:=.iface 58 (Vb Vg k),recovered:=true}::older)/\w'=w.setCell p (Vb Vg k):=by
 refine VE func159 rfl fun c₀ cs hu=> ?_
 apply VV
 apply VM
 simp[wpOpsS,go_sem,recoverD,hu,ntmps159,Exit.thenS]
 refine VP ?_
 change Code.wp _ _ _ {tmps:=#[.pointer (some p),.iface 58 (Vb Vg k),.iface 58 (Vb Vg k),undef,undef,undef,undef],defers:=[]} _
 have hta:=fun u=>jE k u
 go_wp2
 exact⟨rfl,_,rfl,.tuple #[],by simp[results,results159],rfl,rfl,rfl⟩
theorem kT(p:Addr)(w:fV):
  CallsD Vh 159 #[.pointer (some p)] .returning w fun e u' w'=>e=.returned (.tuple #[])/\u'=.returning/\w'=w:=by
 refine VE func159 rfl fun c₀ cs hu=> ?_
 apply VV
 apply VM
 simp[wpOpsS,go_sem,recoverD,hu,ntmps159,Exit.thenS]
 refine VP ?_
 change Code.wp _ _ _ {tmps:=#[.pointer (some p),.nilIface,.nilIface,undef,undef,undef,undef],defers:=[]} _
 go_wp2
 cases c₀
 simp_all[bodyPostS,results,results159]
theorem iG(w:fV)(B:Nat)(s:ByteArray)(h:B=w.heap.size):iL (w.alloc (.cells #[.string s] 217)) B s.data.toList:=by
 subst h
 unfold iL
 rw[mQ]
 exact G8 w _
theorem jk{w W w1:fV}{B:Nat}(g:W.grownBy w1 (some B))(h:gm w.heap.size w W)(hB:w.heap.size<=B):gm w.heap.size w w1:=
 h.grown g h.size (fun k hk=>by simp at hk;omega)
theorem blocks{w w1 W:fV}{s:ByteArray}(g:W.grownBy w1 (some (w.heap.size+1+1)))(hW:W=((w.alloc (.cells zE_ 111)).alloc (.cells #[Vb Vg 0] 58)).alloc (.cells #[.string s] 217)):
  w1.heap[w.heap.size]?=some (.cells zE_ 111 (0,0))/\w1.heap[w.heap.size+1]?=some (.cells #[Vb Vg 0] 58 (0,0)):=by
 have z2:((w.alloc (.cells zE_ 111)).alloc (.cells #[Vb Vg 0] 58)).heap.size=w.heap.size+1+1:=by simp
 have z1:(w.alloc (.cells zE_ 111)).heap.size=w.heap.size+1:=by simp
 have e0:W.heap[w.heap.size]?=some (.cells zE_ 111 (0,0)):=by
  rw[hW,Vi _ _ _ (by omega),Vi _ _ _ (by omega)];exact G8 w _
 have e1:W.heap[w.heap.size+1]?=some (.cells #[Vb Vg 0] 58 (0,0)):=by
  rw[hW,Vi _ _ _ (by omega)]
  have q:=G8 (w.alloc (.cells zE_ 111)) (.cells #[Vb Vg 0] 58)
  rw[z1]at q
  exact q
 exact⟨(g.block _ (Vj e0) (fun q=>by simp at q;omega)).trans e0,(g.block _ (Vj e1) (fun q=>by simp at q)).trans e1⟩
theorem je(s:ByteArray)(k:Int)(w:fV)
  (hR:∀u B,iL u B s.data.toList->f_ Vh 139 #[p_ B] u fun ee w'=>ee=.panicked (iH k)/\u.grownBy w' (some B)):
  f_ Vh 138 #[.string s,.func (.func 139) #[] #[]] w fun ee w'=>ee=.returned (.tuple #[.agg zE_,Vb Vg k])/\gm w.heap.size w w':=by
 have hmf:∀(fn:Fn) (first cap:Array Value) (w:fV),(Instr.makeFunc fn first cap).run Vh w=.ok (.func fn first cap) w:=fun _ _ _ _=>rfl
 have HR:=gu hR
 clear hR
 go_enter_defers func138,ntmps138
 go_wp2_with fail
 refine(HR _ _ (iG _ _ s (by simp))).mono ?_
 rintro ee w1 ⟨rfl,g1⟩
 obtain⟨hr,he⟩:=blocks g1 rfl
 have d0:w1.cell? (a_ w.heap.size 0)=some (Vb Vd 0):=gD hr rfl
 have d1:w1.cell? (a_ w.heap.size 1)=some (Vb Vd 0):=gD hr rfl
 have d2:w1.cell? (a_ w.heap.size 2)=some (Vb Vd 0):=gD hr rfl
 have d3:w1.cell? (a_ w.heap.size 3)=some (Vb Vd 0):=gD hr rfl
 have d4:w1.cell? (a_ w.heap.size 4)=some (Vb Vd 0):=gD hr rfl
 have d5:w1.cell? (a_ w.heap.size 5)=some (Vb Vd 0):=gD hr rfl
 have d6:w1.cell? (a_ w.heap.size 6)=some (Vb Vd 0):=gD hr rfl
 have d7:w1.cell? (a_ w.heap.size 7)=some (Vb Vd 0):=gD hr rfl
 have d8:w1.cell? (a_ w.heap.size 8)=some (Vb Vd 0):=gD hr rfl
 have d9:w1.cell? (a_ w.heap.size 9)=some (Vb Vd 0):=gD hr rfl
 have d10:w1.cell? (a_ w.heap.size 10)=some (Vb Vd 0):=gD hr rfl
 have d11:w1.cell? (a_ w.heap.size 11)=some (Vb Vd 0):=gD hr rfl
 have d12:w1.cell? (a_ w.heap.size 12)=some (Vb Ve 0):=gD hr rfl
 have d13:w1.cell? (a_ w.heap.size 13)=some (.string ⟨#[]⟩):=gD hr rfl
 have hc:=Vm he
 have hf:=Vy he
 refine VF (f:=159) (args:=#[p_ (w.heap.size+1)]) (by simp) (by simp[go_sem]) ?_
 refine(jf (a_ (w.heap.size+1) 0) 0 k [] _ hc hf).mono ?_
 rintro e u' w'' ⟨rfl,rfl,rfl⟩
 simp[Leaves,settle,results,results138,go_sem,d0,d1,d2,d3,d4,d5,d6,d7,d8,d9,d10,d11,d12,d13,hc]
 exact(jk g1 ((((R9 _ w).alloc (ai _) _).alloc (by simp) _).alloc (by simp;omega) _) (by omega)).setCell (by simp) _
theorem iP{B j:Nat}{a w:fV}{v:Value}(h:gm B a w):gm B a (w.setCell (a_ B j) v):=h.setCell (ai _) v
theorem kC{w:fV}{g:Nat}{t:TypeId}(b0 b1 b2 b3 b4 b5 b6 b7 b8 b9 b10 b11 b12 b13 v0 v1 v2 v3 v4 v5 v6 v7 v8 v9 v10 v11 v12 v13:Value)(h:w.heap[g]?=some (.cells #[b0,b1,b2,b3,b4,b5,b6,b7,b8,b9,b10,b11,b12,b13] t (0,0))):
  ((((((((((((((w.setCell (a_ g 0) v0).setCell (a_ g 1) v1).setCell (a_ g 2) v2).setCell (a_ g 3) v3).setCell (a_ g 4) v4).setCell (a_ g 5) v5).setCell (a_ g 6) v6).setCell (a_ g 7) v7).setCell (a_ g 8) v8).setCell (a_ g 9) v9).setCell (a_ g 10) v10).setCell (a_ g 11) v11).setCell (a_ g 12) v12).setCell (a_ g 13) v13).heap[g]?=some (.cells #[v0,v1,v2,v3,v4,v5,v6,v7,v8,v9,v10,v11,v12,v13] t (0,0)):=by
 have q:=gI (gI (gI (gI (gI (gI (gI (gI (gI (gI (gI (gI (gI (gI h 0 v0) 1 v1) 2 v2) 3 v3) 4 v4) 5 v5) 6 v6) 7 v7) 8 v8) 9 v9) 10 v10) 11 v11) 12 v12) 13 v13
 simpa only[ae,ah,af]using q
theorem nK(s:ByteArray)(a0 a1 a2 a3 a4 a5 a6 a7 a8 a9 a10 a11 a12:Int)(a13:ByteArray)(w:fV)
  (hR:∀u B,iL u B s.data.toList->f_ Vh 139 #[p_ B] u fun ee w'=>ee=.returned (.agg (rE a0 a1 a2 a3 a4 a5 a6 a7 a8 a9 a10 a11 a12 a13))/\u.grownBy w' (some B)):
  f_ Vh 138 #[.string s,.func (.func 139) #[] #[]] w fun ee w'=>ee=.returned (.tuple #[.agg (rE a0 a1 a2 a3 a4 a5 a6 a7 a8 a9 a10 a11 a12 a13),Vb Vg 0])/\gm w.heap.size w w':=by
 have hmf:∀(fn:Fn) (first cap:Array Value) (w:fV),(Instr.makeFunc fn first cap).run Vh w=.ok (.func fn first cap) w:=fun _ _ _ _=>rfl
 have HR:=gu hR
 clear hR
 go_enter_defers func138,ntmps138
 go_wp2_with fail
 refine(HR _ _ (iG _ _ s (by simp))).mono ?_
 rintro ee w1 ⟨rfl,g1⟩
 obtain⟨hr,he⟩:=blocks g1 rfl
 have d0:w1.cell? (a_ w.heap.size 0)=some (Vb Vd 0):=gD hr rfl
 have d1:w1.cell? (a_ w.heap.size 1)=some (Vb Vd 0):=gD hr rfl
 have d2:w1.cell? (a_ w.heap.size 2)=some (Vb Vd 0):=gD hr rfl
 have d3:w1.cell? (a_ w.heap.size 3)=some (Vb Vd 0):=gD hr rfl
 have d4:w1.cell? (a_ w.heap.size 4)=some (Vb Vd 0):=gD hr rfl
 have d5:w1.cell? (a_ w.heap.size 5)=some (Vb Vd 0):=gD hr rfl
 have d6:w1.cell? (a_ w.heap.size 6)=some (Vb Vd 0):=gD hr rfl
 have d7:w1.cell? (a_ w.heap.size 7)=some (Vb Vd 0):=gD hr rfl
 have d8:w1.cell? (a_ w.heap.size 8)=some (Vb Vd 0):=gD hr rfl
 have d9:w1.cell? (a_ w.heap.size 9)=some (Vb Vd 0):=gD hr rfl
 have d10:w1.cell? (a_ w.heap.size 10)=some (Vb Vd 0):=gD hr rfl
 have d11:w1.cell? (a_ w.heap.size 11)=some (Vb Vd 0):=gD hr rfl
 have d12:w1.cell? (a_ w.heap.size 12)=some (Vb Ve 0):=gD hr rfl
 have d13:w1.cell? (a_ w.heap.size 13)=some (.string ⟨#[]⟩):=gD hr rfl
 have fr:=gM hr
 have hc:=Vm he
 have hf:=Vy he
 have HB:=gu (jk g1 ((((R9 _ w).alloc (ai _) _).alloc (by simp) _).alloc (by simp;omega) _) (by omega))
 obtain⟨U,hU⟩:∃U,U=(((((((((((((((w1.setCell (a_ w.heap.size 0) (Vb Vd a0)).setCell (a_ w.heap.size 1) (Vb Vd a1)).setCell (a_ w.heap.size 2) (Vb Vd a2)).setCell (a_ w.heap.size 3) (Vb Vd a3)).setCell (a_ w.heap.size 4) (Vb Vd a4)).setCell (a_ w.heap.size 5) (Vb Vd a5)).setCell (a_ w.heap.size 6) (Vb Vd a6)).setCell (a_ w.heap.size 7) (Vb Vd a7)).setCell (a_ w.heap.size 8) (Vb Vd a8)).setCell (a_ w.heap.size 9) (Vb Vd a9)).setCell (a_ w.heap.size 10) (Vb Vd a10)).setCell (a_ w.heap.size 11) (Vb Vd a11)).setCell (a_ w.heap.size 12) (Vb Ve a12)).setCell (a_ w.heap.size 13) (.string a13)).setCell (a_ (w.heap.size+1) 0) (Vb Vg 0)):=⟨_,rfl⟩
 have hu:U.heap[w.heap.size]?=some (.cells (rE a0 a1 a2 a3 a4 a5 a6 a7 a8 a9 a10 a11 a12 a13) 111 (0,0)):=by
  rw[hU,R8 _ _ _ _ (by simp)]
  exact kC _ _ _ _ _ _ _ _ _ _ _ _ _ _ _ _ _ _ _ _ _ _ _ _ _ _ _ _ hr
 have hv:U.heap[w.heap.size+1]?=some (.cells #[Vb Vg 0] 58 (0,0)):=by
  rw[hU]
  refine VR (v:=Vb Vg 0) ?_
  rw[R8 _ _ _ _ (by simp),R8 _ _ _ _ (by simp),R8 _ _ _ _ (by simp),R8 _ _ _ _ (by simp),R8 _ _ _ _ (by simp),R8 _ _ _ _ (by simp),R8 _ _ _ _ (by simp),R8 _ _ _ _ (by simp),R8 _ _ _ _ (by simp),R8 _ _ _ _ (by simp),R8 _ _ _ _ (by simp),R8 _ _ _ _ (by simp),R8 _ _ _ _ (by simp),R8 _ _ _ _ (by simp)]
  exact he
 have HBU:Hid (gm w.heap.size w U):=by
  show gm w.heap.size w U
  rw[hU]
  refine VT ?_ (by simp) _
  iterate 14 refine iP ?_
  exact HB
 have u0:U.cell? (a_ w.heap.size 0)=some (Vb Vd a0):=gD hu rfl
 have u1:U.cell? (a_ w.heap.size 1)=some (Vb Vd a1):=gD hu rfl
 have u2:U.cell? (a_ w.heap.size 2)=some (Vb Vd a2):=gD hu rfl
 have u3:U.cell? (a_ w.heap.size 3)=some (Vb Vd a3):=gD hu rfl
 have u4:U.cell? (a_ w.heap.size 4)=some (Vb Vd a4):=gD hu rfl
 have u5:U.cell? (a_ w.heap.size 5)=some (Vb Vd a5):=gD hu rfl
 have u6:U.cell? (a_ w.heap.size 6)=some (Vb Vd a6):=gD hu rfl
 have u7:U.cell? (a_ w.heap.size 7)=some (Vb Vd a7):=gD hu rfl
 have u8:U.cell? (a_ w.heap.size 8)=some (Vb Vd a8):=gD hu rfl
 have u9:U.cell? (a_ w.heap.size 9)=some (Vb Vd a9):=gD hu rfl
 have u10:U.cell? (a_ w.heap.size 10)=some (Vb Vd a10):=gD hu rfl
 have u11:U.cell? (a_ w.heap.size 11)=some (Vb Vd a11):=gD hu rfl
 have u12:U.cell? (a_ w.heap.size 12)=some (Vb Ve a12):=gD hu rfl
 have u13:U.cell? (a_ w.heap.size 13)=some (.string a13):=gD hu rfl
 have uv:=Vm hv
 have HU:=gu hU
 clear g1 hr he hu hv hU
 go_wp2
 rw[<-gB HU]
 clear HU d0 d1 d2 d3 d4 d5 d6 d7 d8 d9 d10 d11 d12 d13 hc hf fr
 refine VF (f:=159) (args:=#[p_ (w.heap.size+1)]) (by simp) (by simp[go_sem]) ?_
 refine(kT (a_ (w.heap.size+1) 0) _).mono ?_
 rintro e u' w'' ⟨rfl,rfl,rfl⟩
 simp[Leaves,settle,results,results138,go_sem,u0,u1,u2,u3,u4,u5,u6,u7,u8,u9,u10,u11,u12,u13,uv]
 exact HBU
theorem iU(s:ByteArray)(a0 a1 a2 a3 a4 a5 a6 a7 a8 a9 a10 a11 a12:Int)(a13:ByteArray)(k:Int)(w:fV)
  (hR:∀u:fV,f_ Vh 138 #[.string s,.func (.func 139) #[] #[]] u fun ee w'=>ee=.returned (.tuple #[.agg (rE a0 a1 a2 a3 a4 a5 a6 a7 a8 a9 a10 a11 a12 a13),Vb Vg k])/\gm u.heap.size u w'):
  f_ Vh 98 #[.string s] w fun ee w'=>ee=.returned (.tuple #[.agg (rE a0 a1 a2 a3 a4 a5 a6 a7 a8 a9 a10 a11 a12 a13),Vb Vg k])/\gm w.heap.size w w':=by
 have HR:=gu hR
 clear hR
 go_enter func98,ntmps98
 go_wp2_with fail
 refine(HR _).mono ?_
 rintro ee w1 ⟨rfl,hb⟩
 have hr:w1.heap[w.heap.size]?=some (.cells zE_ 111 (0,0)):=(hb.block _ (by simp)).trans (G8 w _)
 have d0:w1.cell? (a_ w.heap.size 0)=some (Vb Vd 0):=gD hr rfl
 have d1:w1.cell? (a_ w.heap.size 1)=some (Vb Vd 0):=gD hr rfl
 have d2:w1.cell? (a_ w.heap.size 2)=some (Vb Vd 0):=gD hr rfl
 have d3:w1.cell? (a_ w.heap.size 3)=some (Vb Vd 0):=gD hr rfl
 have d4:w1.cell? (a_ w.heap.size 4)=some (Vb Vd 0):=gD hr rfl
 have d5:w1.cell? (a_ w.heap.size 5)=some (Vb Vd 0):=gD hr rfl
 have d6:w1.cell? (a_ w.heap.size 6)=some (Vb Vd 0):=gD hr rfl
 have d7:w1.cell? (a_ w.heap.size 7)=some (Vb Vd 0):=gD hr rfl
 have d8:w1.cell? (a_ w.heap.size 8)=some (Vb Vd 0):=gD hr rfl
 have d9:w1.cell? (a_ w.heap.size 9)=some (Vb Vd 0):=gD hr rfl
 have d10:w1.cell? (a_ w.heap.size 10)=some (Vb Vd 0):=gD hr rfl
 have d11:w1.cell? (a_ w.heap.size 11)=some (Vb Vd 0):=gD hr rfl
 have d12:w1.cell? (a_ w.heap.size 12)=some (Vb Ve 0):=gD hr rfl
 have d13:w1.cell? (a_ w.heap.size 13)=some (.string ⟨#[]⟩):=gD hr rfl
 have fr:=gM hr
 have HB:Hid (gm w.heap.size w w1):=gu (((R9 _ w).alloc (ai _) _).trans (hb.mono (by simp)))
 obtain⟨U,hU⟩:∃U,U=((((((((((((((w1.setCell (a_ w.heap.size 0) (Vb Vd a0)).setCell (a_ w.heap.size 1) (Vb Vd a1)).setCell (a_ w.heap.size 2) (Vb Vd a2)).setCell (a_ w.heap.size 3) (Vb Vd a3)).setCell (a_ w.heap.size 4) (Vb Vd a4)).setCell (a_ w.heap.size 5) (Vb Vd a5)).setCell (a_ w.heap.size 6) (Vb Vd a6)).setCell (a_ w.heap.size 7) (Vb Vd a7)).setCell (a_ w.heap.size 8) (Vb Vd a8)).setCell (a_ w.heap.size 9) (Vb Vd a9)).setCell (a_ w.heap.size 10) (Vb Vd a10)).setCell (a_ w.heap.size 11) (Vb Vd a11)).setCell (a_ w.heap.size 12) (Vb Ve a12)).setCell (a_ w.heap.size 13) (.string a13)):=⟨_,rfl⟩
 have hu:U.heap[w.heap.size]?=some (.cells (rE a0 a1 a2 a3 a4 a5 a6 a7 a8 a9 a10 a11 a12 a13) 111 (0,0)):=by
  rw[hU]
  exact kC _ _ _ _ _ _ _ _ _ _ _ _ _ _ _ _ _ _ _ _ _ _ _ _ _ _ _ _ hr
 have HBU:Hid (gm w.heap.size w U):=by
  show gm w.heap.size w U
  rw[hU]
  iterate 14 refine iP ?_
  exact HB
 have u0:U.cell? (a_ w.heap.size 0)=some (Vb Vd a0):=gD hu rfl
 have u1:U.cell? (a_ w.heap.size 1)=some (Vb Vd a1):=gD hu rfl
 have u2:U.cell? (a_ w.heap.size 2)=some (Vb Vd a2):=gD hu rfl
 have u3:U.cell? (a_ w.heap.size 3)=some (Vb Vd a3):=gD hu rfl
 have u4:U.cell? (a_ w.heap.size 4)=some (Vb Vd a4):=gD hu rfl
 have u5:U.cell? (a_ w.heap.size 5)=some (Vb Vd a5):=gD hu rfl
 have u6:U.cell? (a_ w.heap.size 6)=some (Vb Vd a6):=gD hu rfl
 have u7:U.cell? (a_ w.heap.size 7)=some (Vb Vd a7):=gD hu rfl
 have u8:U.cell? (a_ w.heap.size 8)=some (Vb Vd a8):=gD hu rfl
 have u9:U.cell? (a_ w.heap.size 9)=some (Vb Vd a9):=gD hu rfl
 have u10:U.cell? (a_ w.heap.size 10)=some (Vb Vd a10):=gD hu rfl
 have u11:U.cell? (a_ w.heap.size 11)=some (Vb Vd a11):=gD hu rfl
 have u12:U.cell? (a_ w.heap.size 12)=some (Vb Ve a12):=gD hu rfl
 have u13:U.cell? (a_ w.heap.size 13)=some (.string a13):=gD hu rfl
 have HU:=gu hU
 clear hr hu hU hb HR
 go_wp2
 rw[<-gB HU]
 clear HU d0 d1 d2 d3 d4 d5 d6 d7 d8 d9 d10 d11 d12 d13 fr
 exact Vl (v:=.tuple #[.agg (rE a0 a1 a2 a3 a4 a5 a6 a7 a8 a9 a10 a11 a12 a13),Vb Vg k]) (by simp[results,results98,go_sem,u0,u1,u2,u3,u4,u5,u6,u7,u8,u9,u10,u11,u12,u13]) rfl ⟨rfl,HBU⟩
end gP
namespace Lt
open Bs Rd
open Ip (lS uX)
def bt(l:List UInt8)(i:Nat):Int:=((l.getD i 0).toNat:Int)
def w2(l:List UInt8)(i:Nat):Int:=256*bt l i+bt l (i+1)
def w4(l:List UInt8)(i:Nat):Int:=16777216*bt l i+65536*bt l (i+1)+256*bt l (i+2)+bt l (i+3)
def Co(l:List UInt8):Int:=
 if l.length<20 then 1 else if bt l 0/16≠4∨bt l 0%16<5 then 2 else if 5<bt l 0%16 then 4
 else if w2 l 2<20 then 2 else if((l.length:Nat):Int)<w2 l 2 then 1 else if lS (l.take 20)≠0 then 6
 else if 32768<=w2 l 6∨bt l 8=0 then 2 else if w2 l 6%16384≠0 then 5 else 0
def xX(l:List UInt8)(x:Int):Int:=if Co l=0 then x else 0
def AA(l:List UInt8):ByteArray:=if Co l=0 then⟨((l.drop 20).take ((w2 l 2).toNat-20)).toArray⟩else⟨#[]⟩
theorem nJ{l:List UInt8}{k:Int}(h:Co l=k)(hk:k≠0)(x:Int):xX l x=0:=by unfold xX;rw[ax (by rw[h];exact hk)]
theorem EN{l:List UInt8}{k:Int}(h:Co l=k)(hk:k≠0):AA l=⟨#[]⟩:=by unfold AA;rw[ax (by rw[h];exact hk)]
theorem pX{l:List UInt8}(h:Co l=0)(x:Int):xX l x=x:=by unfold xX;rw[ay h]
theorem I_{l:List UInt8}(h:Co l=0):AA l=⟨((l.drop 20).take ((w2 l 2).toNat-20)).toArray⟩:=by unfold AA;rw[ay h]
theorem wL(a b:UInt8):bits .and .u16 (256*(a.toNat:Int)+(b.toNat:Int)) 32768=0↔256*(a.toNat:Int)+(b.toNat:Int)<32768:=by
 have ha:=a.toNat_lt;have hb:=b.toNat_lt
 have e:256*(a.toNat:Int)+(b.toNat:Int)=((256*a.toNat+b.toNat:Nat):Int):=by omega
 rw[e,LA _ (by omega)];omega
theorem FQ(a b:UInt8):bits .and .u16 (256*(a.toNat:Int)+(b.toNat:Int)) 16383=0↔(256*(a.toNat:Int)+(b.toNat:Int))%16384=0:=by
 have ha:=a.toNat_lt;have hb:=b.toNat_lt
 have e:256*(a.toNat:Int)+(b.toNat:Int)=((256*a.toNat+b.toNat:Nat):Int):=by omega
 rw[e,NG _ (by omega)];omega
theorem twenty(l:List UInt8)(h:20<=l.length):∃a0 a1 a2 a3 a4 a5 a6 a7 a8 a9 a10 a11 a12 a13 a14 a15 a16 a17 a18 a19 r,l=a0::a1::a2::a3::a4::a5::a6::a7::a8::a9::a10::a11::a12::a13::a14::a15::a16::a17::a18::a19::r:=by
 obtain⟨a0,a1,a2,a3,a4,a5,l1,rfl⟩:=gP.sixth l (by omega)
 simp only[aj]at h
 obtain⟨a6,a7,a8,a9,a10,a11,l2,rfl⟩:=gP.sixth l1 (by omega)
 simp only[aj]at h
 obtain⟨a12,a13,a14,a15,a16,a17,l3,rfl⟩:=gP.sixth l2 (by omega)
 simp only[aj]at h
 obtain⟨a18,a19,r,rfl⟩:=gP.second l3 (by omega)
 exact⟨a0,a1,a2,a3,a4,a5,a6,a7,a8,a9,a10,a11,a12,a13,a14,a15,a16,a17,a18,a19,r,rfl⟩
end Lt
namespace Ut
open Bs Rd Lt
open Ip (lS uX)
open Ud (kR)
def BD(l:List UInt8)(fr ta:Int):Int:=
 if l.length<8 then 1 else if w2 l 4<8 then 2 else if((l.length:Nat):Int)<w2 l 4 then 1
 else if w2 l 6≠0/\lS (kR fr ta (w2 l 4)++l.take (w2 l 4).toNat)≠0 then 6 else 0
def Lr(l:List UInt8)(fr ta x:Int):Int:=if BD l fr ta=0 then x else 0
def Ae(l:List UInt8)(fr ta:Int):ByteArray:=if BD l fr ta=0 then⟨((l.drop 8).take ((w2 l 4).toNat-8)).toArray⟩else⟨#[]⟩
theorem zi{l:List UInt8}{fr ta k:Int}(h:BD l fr ta=k)(hk:k≠0)(x:Int):Lr l fr ta x=0:=by unfold Lr;rw[ax (by rw[h];exact hk)]
theorem Ef{l:List UInt8}{fr ta k:Int}(h:BD l fr ta=k)(hk:k≠0):Ae l fr ta=⟨#[]⟩:=by unfold Ae;rw[ax (by rw[h];exact hk)]
theorem sS{l:List UInt8}{fr ta:Int}(h:BD l fr ta=0)(x:Int):Lr l fr ta x=x:=by unfold Lr;rw[ay h]
theorem JD{l:List UInt8}{fr ta:Int}(h:BD l fr ta=0):Ae l fr ta=⟨((l.drop 8).take ((w2 l 4).toNat-8)).toArray⟩:=by unfold Ae;rw[ay h]
theorem eight(l:List UInt8)(h:8<=l.length):∃a0 a1 a2 a3 a4 a5 a6 a7 r,l=a0::a1::a2::a3::a4::a5::a6::a7::r:=by
 obtain⟨a0,a1,a2,a3,a4,a5,l1,rfl⟩:=gP.sixth l (by omega)
 simp only[aj]at h
 obtain⟨a6,a7,r,rfl⟩:=gP.second l1 (by omega)
 exact⟨a0,a1,a2,a3,a4,a5,a6,a7,r,rfl⟩
end Ut
namespace Ip
open Bs Rb Wt rO
theorem wG(u:fV)(g:Nat)(a b:Int)(ha:0<=a/\a<=255)(hb:0<=b/\b<=255)(h0:u.cell? (a_ g 0)=some (Vb Vd a))(h1:u.cell? (a_ g 1)=some (Vb Vd b)):
  (convert 55 9 (.slice (some (a_ g 0)) 2 2)).run Vh u=.ok (.string ⟨#[gJ a,gJ b]⟩) u:=by
 refine VI _ _ _ 5 (a_ g 0) 2 [gJ a,gJ b] bu bU bI (fun j hj=> ?_)
 rw[jB]
 match j,hj with
 |0,_=>rw[h0];simp only[dQ,lh];rw[d_ ha.1 (by omega)]
 |1,_=>rw[h1];simp only[dP,dQ,lh];rw[d_ hb.1 (by omega)]
theorem lZ{a b:ByteArray}{k:Int}(h:a=b):Ending.returned (.tuple #[.string a,Vb Vg k])=.returned (.tuple #[.string b,Vb Vg k]):=by rw[h]
theorem jw{w u:fV}{cs:Array Value}{t:TypeId}(h:gm (w.heap.size+1) (w.alloc (.cells cs t)) u):∀j,u.cell? (a_ w.heap.size j)=cs[j]?:=fun j=>by
 rw[h.cell (p:=(a_ w.heap.size j)) (by simp),HY _ w.heap.size j cs t (0,0) (G8 w _)]
theorem sizes{w u:fV}{o:Obj}(h:gm (w.heap.size+1) (w.alloc o) u):w.heap.size+1<=u.heap.size:=by have:=h.size;simpa using this
end Ip
namespace Dh
open Bs
open Rd (iL iH jD iR)
theorem wW:(prog.info? 9).map (fun i=>(i.zero,i.size,i.bytes))=some (some (.string ⟨#[]⟩),1,16):=by kernel_rfl
theorem Jy(a:Option Addr)(cap:Nat)(os:gU)(w:fV)(hA:At w a os)(hl:heavy os<=268435456):
  f_ Vh 279 #[.slice a os.length cap,Vb Vd 52] w fun e w'=>
   e=.returned (.tuple #[.string ⟨(data os 52).toArray⟩,.bool (has os 52)])/\gm w.heap.size w w':=nN a cap os 52 w hA hl
theorem GA(a:Option Addr)(cap:Nat)(os:gU)(w:fV)(hA:At w a os)(hl:heavy os<=268435456):
  f_ Vh 305 #[.slice a os.length cap,Vb Vd 52] w fun e w'=>
   ∃v,e=.returned v/\w'.ownsRow w.heap.size 151 2 v (drop os 52).length (gT (drop os 52))/\gm w.heap.size w w':=Ea a cap os 52 w hA hl
def pE(d:List UInt8)(host file:ByteArray):List ByteArray:=(if m_ d then [file]else [])++(if yX d then [host]else [])
def Eu(os:gU)(host file:ByteArray)(w:fV)(e:Ending)(w':fV):Prop:=
 gm w.heap.size w w'/\(if has os 52 then(if kM (data os 52)then ∃v,e=.returned v/\w'.ownsRow w.heap.size 9 1 v (pE (data os 52) host file).length ((pE (data os 52) host file).map Value.string)else e=.panicked (iH 2))else e=.returned (.slice none 0 0))
theorem Ki(a:Option Addr)(cap:Nat)(os:gU)(host file:ByteArray)(w:fV)(hA:At w a os)(hl:heavy os<=268435456):
  f_ Vh 304 #[.slice a os.length cap,.string host,.string file] w fun e w'=>Eu os host file w e w':=by
 obtain⟨i0,hi,hz0,hz1,hz2⟩:=Vx wW
 have HD:=gu (Jy a cap os w hA hl)
 unfold Eu
 obtain⟨d,hd⟩:∃d,d=data os 52:=⟨_,rfl⟩
 obtain⟨p,hp⟩:∃p,p=has os 52:=⟨_,rfl⟩
 rw[<-hd,<-hp]at HD ⊢
 clear hA hd hp
 cases p with
 |false=>
  go_enter func304,ntmps304
  go_wp2_with fail
  refine HD.mono ?_
  rintro e w1 ⟨rfl,hb1⟩
  have HB1:=gu hb1
  have hz1w:=hb1.size
  clear hb1 HD
  go_wp2
  go_ret
  exact⟨HB1,rfl⟩
 |true=>
  match d with
  |[]=>
   go_enter func304,ntmps304
   go_wp2_with fail
   refine HD.mono ?_
   rintro e w1 ⟨rfl,hb1⟩
   have HB1:=gu hb1
   have hz1w:=hb1.size
   clear hb1 HD
   go_wp2_with fail
   refine(iR _ (by simp) _ _).mono ?_
   rintro e w2 ⟨rfl,rfl⟩
   exact⟨rfl,HB1,rfl⟩
  |x::y::r=>
   have hsz:(⟨(x::y::r).toArray⟩:ByteArray).size=r.length+2:=by rw[gL];simp
   obtain⟨s,hs⟩:∃s:ByteArray,s=⟨(x::y::r).toArray⟩:=⟨_,rfl⟩
   rw[<-hs]at hsz HD
   have hne:((s.size:Int)==1)=false:=by simp;omega
   clear hs hsz
   go_enter func304,ntmps304
   go_wp2_with fail
   refine HD.mono ?_
   rintro e w1 ⟨rfl,hb1⟩
   have HB1:=gu hb1
   have hz1w:=hb1.size
   clear hb1 HD
   go_wp2_with fail
   refine(iR _ (by simp) _ _).mono ?_
   rintro e w2 ⟨rfl,rfl⟩
   exact⟨rfl,HB1,rfl⟩
  |[x]=>
   have hx8:=x.toNat_lt
   have hix:∀u,(Instr.index 9 (.string ⟨#[x]⟩) (Vb Vg 0)).run Vh u=.ok (Vb Vd x.toNat) u:=fun _=>by kernel_rfl
   by_cases hok:1<=x.toNat/\x.toNat<=3
   ·have hcase:x.toNat=1∨x.toNat=2∨x.toNat=3:=by omega
    have hAD:kM [x]=true:=by simp[kM,hok]
    rw[hAD]
    rcases hcase with e0|e0|e0
    ·rw[e0]at hix
     have hS:pE [x] host file=[file]:=by simp[pE,m_,yX,e0]
     rw[hS]
     clear hok hAD e0 hx8 hS
     go_enter func304,ntmps304
     go_wp2_with fail
     refine HD.mono ?_
     rintro e w1 ⟨rfl,hb1⟩
     have HB1:=gu hb1
     have hz1w:=hb1.size
     clear hb1 HD
     go_wp2_with fail
     refine(jD _ (by simp) _ _).mono ?_
     rintro e w2 ⟨rfl,rfl⟩
     go_wp2_with (at_builtin;refine Vv _ rfl (.tmp 35) (.tmp 37) 49 rfl w.heap.size 9 i0 (.string ⟨#[]⟩) 1 16 bX hi hz0 hz1 hz2 rfl (by decide) _ 0 [] rfl ((Vp _ _ _ _)) (a_ w2.heap.size 0) 1 1 [.string file] rfl rfl ?c1 ?one ?h63 ?hby ?hba ?_)
     case c1=>exact iW w2 [.string file] 9
     case one=>intro u hu;simp at hu;subst hu;rfl
     case h63=>simp only[maxLen];omega
     case hby=>omega
     case hba=>simp;omega
     ·intro A wA hownA hgA _
      obtain⟨ao,cp,hv⟩:=ib hownA
      subst hv
      have hBB:gm w.heap.size w wA:=(HB1.alloc hz1w _).grown hgA (by simp;omega) (fun k hk=>by simp[Value.ownBlock]at hk)
      have OO:=gu hownA
      have BB:=gu hBB
      clear hownA hgA hBB
      go_wp2
      go_ret
      exact⟨BB,_,rfl,OO⟩
    ·rw[e0]at hix
     have hS:pE [x] host file=[host]:=by simp[pE,m_,yX,e0]
     rw[hS]
     clear hok hAD e0 hx8 hS
     go_enter func304,ntmps304
     go_wp2_with fail
     refine HD.mono ?_
     rintro e w1 ⟨rfl,hb1⟩
     have HB1:=gu hb1
     have hz1w:=hb1.size
     clear hb1 HD
     go_wp2_with fail
     refine(jD _ (by simp) _ _).mono ?_
     rintro e w2 ⟨rfl,rfl⟩
     go_wp2_with (at_builtin;refine Vv _ rfl (.tmp 43) (.tmp 45) 49 rfl w.heap.size 9 i0 (.string ⟨#[]⟩) 1 16 bX hi hz0 hz1 hz2 rfl (by decide) _ 0 [] rfl ((Vp _ _ _ _)) (a_ w2.heap.size 0) 1 1 [.string host] rfl rfl ?c1 ?one ?h63 ?hby ?hba ?_)
     case c1=>exact iW w2 [.string host] 9
     case one=>intro u hu;simp at hu;subst hu;rfl
     case h63=>simp only[maxLen];omega
     case hby=>omega
     case hba=>simp;omega
     ·intro A wA hownA hgA _
      obtain⟨ao,cp,hv⟩:=ib hownA
      subst hv
      have hBB:gm w.heap.size w wA:=(HB1.alloc hz1w _).grown hgA (by simp;omega) (fun k hk=>by simp[Value.ownBlock]at hk)
      have OO:=gu hownA
      have BB:=gu hBB
      clear hownA hgA hBB
      go_wp2
      go_ret
      exact⟨BB,_,rfl,OO⟩
    ·rw[e0]at hix
     have hS:pE [x] host file=[file,host]:=by simp[pE,m_,yX,e0]
     rw[hS]
     clear hok hAD e0 hx8 hS
     go_enter func304,ntmps304
     go_wp2_with fail
     refine HD.mono ?_
     rintro e w1 ⟨rfl,hb1⟩
     have HB1:=gu hb1
     have hz1w:=hb1.size
     clear hb1 HD
     go_wp2_with fail
     refine(jD _ (by simp) _ _).mono ?_
     rintro e w2 ⟨rfl,rfl⟩
     go_wp2_with (at_builtin;refine Vv _ rfl (.tmp 35) (.tmp 37) 49 rfl w.heap.size 9 i0 (.string ⟨#[]⟩) 1 16 bX hi hz0 hz1 hz2 rfl (by decide) _ 0 [] rfl ((Vp _ _ _ _)) (a_ w2.heap.size 0) 1 1 [.string file] rfl rfl ?c1 ?one ?h63 ?hby ?hba ?_)
     case c1=>exact iW w2 [.string file] 9
     case one=>intro u hu;simp at hu;subst hu;rfl
     case h63=>simp only[maxLen];omega
     case hby=>omega
     case hba=>simp;omega
     ·intro A wA hownA hgA _
      obtain⟨ao,cp,hv⟩:=ib hownA
      have hBA:gm w.heap.size w wA:=(HB1.alloc hz1w _).grown hgA (by simp;omega) (fun k hk=>by simp[Value.ownBlock]at hk)
      have hzA:=hBA.size
      have OA:=gu hownA
      have BA:=gu hBA
      clear hownA hgA hBA
      subst hv
      go_wp2_with (at_builtin;refine Vv _ rfl (.tmp 43) (.tmp 45) 49 rfl w.heap.size 9 i0 (.string ⟨#[]⟩) 1 16 bX hi hz0 hz1 hz2 rfl (by decide) _ 1 [.string file] rfl ((OA.alloc _)) (a_ wA.heap.size 0) 1 1 [.string host] rfl rfl ?c1 ?one ?h63 ?hby ?hba ?_)
      case c1=>exact iW wA [.string host] 9
      case one=>intro u hu;simp at hu;subst hu;rfl
      case h63=>simp only[maxLen];omega
      case hby=>omega
      case hba=>simp;omega
      ·intro B wB hownB hgB _
       obtain⟨ao,cp,hv⟩:=ib hownB
       subst hv
       have hBB:gm w.heap.size w wB:=(BA.alloc hzA _).grown hgB (by simp;omega) (fun k hk=>(OA.lt k hk).1)
       have OO:=gu hownB
       have BB:=gu hBB
       clear hownB hgB hBB
       go_wp2
       go_ret
       exact⟨BB,_,rfl,OO⟩
   ·have hAD:kM [x]=false:=by simp[kM];omega
    rw[hAD]
    by_cases e0:x.toNat=0
    ·rw[e0]at hix
     clear hok hAD e0 hx8
     go_enter func304,ntmps304
     go_wp2_with fail
     refine HD.mono ?_
     rintro e w1 ⟨rfl,hb1⟩
     have HB1:=gu hb1
     have hz1w:=hb1.size
     clear hb1 HD
     go_wp2_with fail
     refine(iR _ (by simp) _ _).mono ?_
     rintro e w2 ⟨rfl,rfl⟩
     exact⟨rfl,HB1,rfl⟩
    ·have q0:(((x.toNat:Nat):Int)!=0)=true:=by simp;omega
     have q1: ¬((x.toNat:Nat):Int)<=3:=by omega
     clear hok hAD e0 hx8
     go_enter func304,ntmps304
     go_wp2_with fail
     refine HD.mono ?_
     rintro e w1 ⟨rfl,hb1⟩
     have HB1:=gu hb1
     have hz1w:=hb1.size
     clear hb1 HD
     go_wp2_with fail
     refine(iR _ (by simp;omega) _ _).mono ?_
     rintro e w2 ⟨rfl,rfl⟩
     exact⟨rfl,HB1,rfl⟩
end Dh
namespace Dh
open Bs
open Rd (gH)
theorem OI:Tryz.zeroCells344=Ka (fun _=>.slice none 0 0):=by kernel_rfl
theorem Ov:Tryz.zeroCells345=Ka (fun _=>.bool false):=by kernel_rfl
theorem J1.start(w:fV):J1 w ((w.alloc (.cells Tryz.zeroCells344 344)).alloc (.cells Tryz.zeroCells345 345)) [] [] (.slice none 0 0) [] (fun _=>.slice none 0 0):=by
 have h0:(w.alloc (.cells Tryz.zeroCells344 344)).heap.size=w.heap.size+1:=by simp
 refine⟨?_,?_,fun j hj=>Vp _ _ _ _,fun i j g _ _ _ hg=>by simp[Value.ownBlock]at hg,Vp _ _ _ _,((R9 _ w).alloc (ai _) _).alloc (by simp) _⟩
 ·unfold o_
  rw[Vi _ _ _ (by simp),<-OI]
  exact G8 w _
 ·have q:=G8 (w.alloc (.cells Tryz.zeroCells344 344)) (.cells Tryz.zeroCells345 345)
  rw[h0]at q
  unfold o_
  rw[q,Ov]
  rfl
theorem J1.alloc{w wr:fV}{pd pt:List Pc}{v5:Value}{outs:List Pc}{V:Nat->Value}(h:J1 w wr pd pt v5 outs V)(o:Obj):J1 w (wr.alloc o) pd pt v5 outs V:=
 ⟨h.row.kept (Vi _ _ _ h.row.lt),h.told.kept (Vi _ _ _ h.told.lt),fun j hj=>(h.own j hj).alloc o,h.apart,h.out.alloc o,h.below.alloc h.below.size o⟩
theorem nT{w:fV}{b b' e z:Nat}{v:Value}{n:Nat}{xs:List Value}(h:w.ownsRow b e z v n xs)(hb:b'<=b):w.ownsRow b' e z v n xs:=
 ⟨h.1,h.2.imp id (fun⟨g,cap,cur,e1,e2,r⟩=>⟨g,cap,cur,e1,aG hb e2,r⟩)⟩
theorem jv{w:fV}{b e z:Nat}{ao:Option Addr}{m cp:Nat}{n:Nat}{xs:List Value}(h:w.ownsRow b e z (.slice ao m cp) n xs)(hn:0<n):∃g,ao=some (a_ g 0)/\b<=g:=by
 rcases h.2 with⟨_,h0⟩|⟨g,cap,cur,hv,hb,_⟩
 ·omega
 ·cases hv
  exact⟨g,rfl,hb⟩
def lT(os:gU)(cs:List UInt8)(q:Nat):List Pc:=((cs.take q).map fun c=>(c,data os c))++((cs.drop q).map fun c=>(c,[]))
theorem JV(os:gU)(cs:List UInt8):lT os cs 0=cs.map fun c=>(c,[]):=by simp[lT]
theorem KI(os:gU)(cs:List UInt8):lT os cs cs.length=cs.map fun c=>(c,data os c):=by simp[lT]
theorem qE(os:gU)(cs:List UInt8)(q:Nat)(hq:q<=cs.length):(lT os cs q).length=cs.length:=by simp[lT];omega
theorem Ll(os:gU)(cs:List UInt8)(q:Nat)(hq:q<cs.length):(lT os cs q)[q]?=some (cs[q],[]):=by
 simp only[lT]
 rw[cB (by simp;omega)]
 simp[hq,Nat.min_eq_left (aK hq)]
theorem Kl(os:gU)(cs:List UInt8)(q:Nat)(hq:q<cs.length):(lT os cs q).set q (cs[q],data os cs[q])=lT os cs (q+1):=by
 apply List.ext_getElem?
 intro i
 rw[List.getElem?_set]
 have h1:(lT os cs q).length=cs.length:=qE os cs q (by omega)
 have h2:(lT os cs (q+1)).length=cs.length:=qE os cs (q+1) (by omega)
 by_cases e:q=i
 ·subst e
  rw[ay rfl,ay (by omega)]
  simp only[lT]
  rw[dn (by simp;omega)]
  simp[hq]
 ·rw[ax e]
  simp only[lT]
  by_cases hi:i<q
  ·rw[dn (by simp;omega),dn (by simp;omega)]
   simp[hi,show i<q+1 by omega]
  ·rw[cB (by simp;omega),cB (by simp;omega)]
   simp only[di,aT,fC,List.getElem?_drop]
   congr 2
   omega
theorem Qf{w wr w1:fV}{ps:List Pc}{v5 v':Value}{outs:List Pc}{V:Nat->Value}(h:J1 w wr ps ps v5 outs V)(c:UInt8)(d:List UInt8)(s:ByteArray)(hs:s.data.toList=d)
  (hg:(wr.alloc (.cells #[Vb Vd c.toNat,.string s] 151)).drew.grownBy w1 (V c.toNat).ownBlock) (hat:v'.ownBlock=(V c.toNat).ownBlock∨∀g,v'.ownBlock=some g->(wr.alloc (.cells #[Vb Vd c.toNat,.string s] 151)).drew.heap.size<=g)
  (hown:w1.ownsRow (w.heap.size+2) 5 1 v' ((data ps c).length+s.size) (gY (data ps c)++Lib.strCells s)):
  w1.cell? (a_ wr.heap.size 0)=some (Vb Vd c.toNat)/\w1.cell? (a_ wr.heap.size 1)=some (.string s)/\w1.cell? (a_ w.heap.size c.toNat)=some (V c.toNat)/\w1.frozen? (a_ w.heap.size c.toNat)=false/\
   Hid (J1 w (w1.setCell (a_ w.heap.size c.toNat) v') (ps++ [(c,d)]) ps v5 outs (fun j=>if j=c.toNat then v' else V j)/\w1.heap[wr.heap.size]?=some (.cells #[Vb Vd c.toNat,.string s] 151 (0,0)))/\∃ao cp,v'=.slice ao ((data ps c).length+s.size) cp:=by
 have hc:=c.toNat_lt
 have hX:∀g,(V c.toNat).ownBlock=some g->w.heap.size+2<=g/\g<wr.heap.size:=fun g hg=>(h.own c.toNat hc).lt g hg
 have hgw:wr.grownBy w1 (V c.toNat).ownBlock:=⟨hg.os,hg.tape,hg.output,aG (by simp) hg.size,fun b hb hne=>(hg.block b (by simp;omega) hne).trans (Vi _ _ _ hb)⟩
 have hbox:w1.heap[wr.heap.size]?=some (.cells #[Vb Vd c.toNat,.string s] 151 (0,0)):=by
  rw[hg.block _ (by simp) (fun e=>by have:=(hX _ e.symm).2;omega)]
  exact G8 wr _
 have hD:o_ w1 w.heap.size 344 V:=h.row.kept (hgw.block _ h.row.lt (fun e=>by have:=(hX _ e.symm).1;omega))
 have hsz:s.size=d.length:=by rw[<-hs,aF];rfl
 refine⟨by rw[HY w1 wr.heap.size 0 _ _ _ hbox];rfl,by rw[HY w1 wr.heap.size 1 _ _ _ hbox];rfl,hD.cell _ hc,hD.free _,gu ⟨?_,hbox⟩,ib hown⟩
 refine h.TA c d ((data ps c).length+s.size) (by rw[hsz]) ?_ hgw ?_
 ·have e8:gY d=Lib.strCells s:=by rw[<-hs];rfl
  rw[e8];exact hown
 ·rcases hat with hat|hat
  ·exact au hat
  ·exact aA (fun g hgg=>by have:=hat g hgg;simp at this;omega)
theorem zq(a:Option Addr)(cap:Nat)(os:gU)(w:fV)(hA:At w a os)(hl:heavy os<=268435456):
  f_ Vh 306 #[.slice a os.length cap] w fun e w'=>
   ∃v,e=.returned v/\w'.ownsRow w.heap.size 151 2 v (gW [] os).length (gT (gW [] os))/\gm w.heap.size w w':=by
 obtain⟨i0,hi,hz0,hz1,hz2⟩:=Vx tu
 obtain⟨i1,hj,hy0,hy1,hy2⟩:=Vx lM
 have hlen:os.length<=heavy os:=by unfold heavy;omega
 have HA:=gu hA
 clear hA
 go_enter func306,ntmps306
 go_wp2
 go_loopw [5,11] (fun v5 i wr=>∃(k:Nat) (cs:List UInt8) (V:Nat->Value),k<=os.length/\cs.length<=k/\i=Vb Vg k/\Hid (Jl (os.take k) cs)/\Hid (J1 w wr (os.take k) (os.take k) v5 (cs.map fun c=>(c,[])) V)) (fun _ i _=>os.length-(intOf i).toNat)
 case atStart=>exact⟨0,[],_,aN _,ai _,rfl,gu Jl.nil,gu (J1.start w)⟩
 case round=>
  obtain⟨k,cs,V,hk,hcs,rfl,HJ,HI⟩:=hrel
  rename fV=>wr
  by_cases hlt:k<os.length
  ·obtain⟨ad,rfl,c0,c1⟩:=HA.below HI.below (ai _) k hlt
   obtain⟨oc,od,hcd⟩:∃x y,os[k]=(x,y):=⟨_,_,rfl⟩
   have ht:=uQ os k hlt
   have htl:=vQ os (k+1)
   have hdl:=vL (os.take k) oc
   have htk:os.take (k+1)=os.take k++ [(oc,od)]:=by rw[aL hlt,hcd]
   rw[hcd]at c0 c1 ht
   simp only at c0 c1 ht
   have HTK:=gu htk
   have hc8:=oc.toNat_lt
   have hc0:(0:Int)<=(oc.toNat:Int):=by omega
   have hc1:((oc.toNat:Nat):Int)<256:=by omega
   obtain⟨s,hS⟩:∃s:ByteArray,s=⟨od.toArray⟩:=⟨_,rfl⟩
   have hsz:s.size=od.length:=by rw[hS];exact gL od
   have hst:s.data.toList=od:=by rw[hS]
   rw[<-hS]at c1
   have HS:=gu hst
   have HSZ:=gu hsz
   have hwz:w.heap.size+2<=wr.heap.size:=by have:=HI.told.lt;omega
   have hDc:∀o,(wr.alloc o).cell? (a_ w.heap.size oc.toNat)=some (V oc.toNat):=fun o=>(HI.alloc o).row.cell oc.toNat hc8
   have hOw:=HI.own oc.toNat hc8
   rw[vX]at hOw
   have HOW:=gu hOw
   have hn0:(data (os.take k) oc).length+od.length<=268435456:=by omega
   have hn1:(data (os.take k) oc).length+s.size<=268435456:=by omega
   clear hcd htk hS hst hsz hOw ht htl hdl
   have HIN:Hid (∃V',J1 w wr (os.take k) (os.take k) u5 (cs.map fun c=>(c,[])) V'):=gu ⟨V,HI⟩
   go_wp2
   go_cut [] (fun wc=>Hid ((∃V',J1 w wc (os.take k++ [(oc,od)]) (os.take k) u5 (cs.map fun c=>(c,[])) V')/\wc.heap[wr.heap.size]?=some (.cells #[Vb Vd oc.toNat,.string s] 151 (0,0))))
   case first=>
    go_region_law (refine qR rfl (.tmp 20) (.tmp 22) 55 9 rfl (w.heap.size+2) 5 i0 bu bI hi hz0 hz1 hz2 (V oc.toNat) _ _ (by simp[Act.eval]) (HOW.alloc _).drew s (by simp[Act.eval]) (by simp only[maxLen];omega) (by omega) (by simp;omega) ?_;intro v' w1 hown hg hat;obtain⟨b0,b1,d0,df,H2,ao,cp,hv'⟩:=Qf HI oc od s HS hg hat hown;clear hown hg hat;subst hv')
    all_goals go_wp2
    all_goals go_meet
    all_goals exact gu ⟨⟨_,H2.1⟩,by rw[R8 _ _ _ _ (by simp;omega)];exact H2.2⟩
   case rest=>
    rename fV=>wc
    obtain⟨⟨V',hJ2⟩,hbx⟩:=gB hcut
    have hwcz:wr.heap.size<wc.heap.size:=Vj hbx
    have b0:wc.cell? (a_ wr.heap.size 0)=some (Vb Vd oc.toNat):=by rw[HY wc wr.heap.size 0 _ _ _ hbx];rfl
    have t0:wc.cell? (a_ (w.heap.size+1) oc.toNat)=some (.bool (has (os.take k) oc)):=by
     have q:=hJ2.told.cell oc.toNat hc8
     simp only[vX]at q
     exact q
    have tf:=hJ2.told.free oc.toNat
    have HBX:=gu hbx
    have HJ2:=gu hJ2
    clear hcut hbx hJ2 hDc HOW HI HIN c0 c1
    by_cases hh:has (os.take k) oc=true
    ·rw[hh]at t0
     have HN:Hid (J1 w wc (os.take (k+1)) (os.take (k+1)) u5 (cs.map fun c=>(c,[])) V'):=gu (by rw[gB HTK];exact HJ2.Sa hh)
     have HL:Hid (Jl (os.take (k+1)) cs):=gu (by rw[gB HTK];exact HJ.step oc od hh)
     clear hh
     go_wp2
     go_roundw
     case rel=>exact⟨k+1,cs,V',by omega,by omega,by go_num,HL,HN⟩
     case measure=>simp[intOf];omega
    ·have hh':has (os.take k) oc=false:=by simpa using hh
     rw[hh']at t0
     have H3:=gu (HJ2.stepT)
     have hb3:(wc.setCell (a_ (w.heap.size+1) oc.toNat) (.bool true)).cell? (a_ wr.heap.size 0)=some (Vb Vd oc.toNat):=by
      rw[HY _ wr.heap.size 0 _ _ _ ((R8 _ _ _ _ (by simp;omega)).trans HBX)];rfl
     have HL:Hid (Jl (os.take (k+1)) (cs++ [oc])):=gu (by rw[gB HTK];exact HJ.more oc od hh')
     clear hh hh'
     go_wp2_with (at_builtin;refine Vv _ rfl (.tmp 33) (.tmp 37) 184 rfl (w.heap.size+2) 151 i1 (.agg #[Vb Vd 0,.string ⟨#[]⟩]) 2 24 bM hj hy0 hy1 hy2 rfl (by decide) _ _ _ rfl ((gB H3).out.alloc _) (a_ wc.heap.size 0) 1 1 [Vb Vd oc.toNat,.string ⟨#[]⟩] rfl rfl ?c1 ?one ?h63 ?hby ?hba ?_)
     case c1=>
      have q:=iW (wc.setCell (a_ (w.heap.size+1) oc.toNat) (.bool true)) [Vb Vd oc.toNat,.string ⟨#[]⟩] 151
      simpa using q
     case one=>intro u hu;simp at hu;rcases hu with rfl|rfl<;>rfl
     case h63=>simp only[maxLen,di];omega
     case hby=>simp only[di];omega
     case hba=>simp;omega
     ·intro v' w4 hown hg _
      have hJ4:=(H3.alloc (.cells #[Vb Vd oc.toNat,.string ⟨#[]⟩] 151)).SI (oc,[]) (cs.length+1) (by rw[di]) hown hg
      have HN:Hid (J1 w w4 (os.take (k+1)) (os.take (k+1)) v' ((cs++ [oc]).map fun c=>(c,[])) V'):=gu (by rw[gB HTK,bP];exact hJ4)
      clear hown hg hJ4
      go_wp2
      go_roundw
      case rel=>exact⟨k+1,cs++ [oc],V',by omega,by simp only[ak,aj,aP];omega,by go_num,HL,HN⟩
      case measure=>simp[intOf];omega
  ·have e:k=os.length:=by omega
   subst e
   rw[aS]at HJ HI
   obtain⟨ao,cp,hv5⟩:=ib (gB HI).out
   rw[di]at hv5
   subst hv5
   have HU:=gu (JV os cs)
   go_wp2
   go_loopw [42] (fun i wq=>∃(q:Nat),q<=cs.length/\i=Vb Vg q/\Hid (J1 w wq os os (.slice ao cs.length cp) (lT os cs q) V)) (fun i _=>cs.length-(intOf i).toNat)
   case atStart=>exact⟨0,aN _,rfl,gu (by rw[gB HU];exact HI)⟩
   case round=>
    obtain⟨q,hq,rfl,HQ⟩:=hrel
    rename fV=>wq
    by_cases hql:q<cs.length
    ·have hUl:=qE os cs q (by omega)
     have ho:=(gB HQ).out
     obtain⟨g,rfl,hgb⟩:=jv ho (by rw[hUl];omega)
     obtain⟨c,hc⟩:∃c,c=cs[q]:=⟨_,rfl⟩
     have hget:(lT os cs q)[q]?=some (c,[]):=by rw[hc];exact Ll os cs q hql
     have hqU:q<(lT os cs q).length:=by rw[hUl];exact hql
     have hgetE:(lT os cs q)[q]=(c,[]):=by
      rw[fe hqU]at hget
      exact aU hget
     have hset:(lT os cs q).set q (c,data os c)=lT os cs (q+1):=by rw[hc];exact Kl os cs q hql
     obtain⟨k0,k1⟩:=qP (lT os cs q) q hqU
     rw[hgetE]at k0 k1
     have hcl:=ho.cells (g:=g) rfl
     have o0:=hcl _ _ k0
     have o1:=hcl _ _ k1
     rw[jB]at o0 o1
     have hc8:=c.toNat_lt
     have hcI:((c.toNat:Nat):Int)<256:=by omega
     rw[hUl]at ho
     have hof:=fun j=>ho.frozenAt j
     have d0:=HQ.row.cell c.toNat hc8
     have hOw:=HQ.own c.toNat hc8
     rw[vX]at hOw
     have hcv:=oL wq _ (V c.toNat) _ hOw
     have hJ:=(gB HQ)
     rw[<-hUl]at hJ
     have hD:=hJ.SG q hqU (data os c)
     rw[hUl,hgetE,hset]at hD
     have HD:=gu hD
     have hql2:(q:Int)<(cs.length:Int):=by omega
     obtain⟨sd,hsd⟩:∃sd:ByteArray,sd=⟨(data os c).toArray⟩:=⟨_,rfl⟩
     rw[<-hsd]at hcv HD
     obtain⟨av,pv,hV⟩:=ib hOw
     rw[hV]at d0 hcv
     clear ho hget hgetE hset k0 k1 hcl hOw hJ hD hUl hqU HI hc hsd hV
     go_wp2
     go_roundw
     case rel=>exact⟨q+1,by omega,by go_num,HD⟩
     case measure=>simp[intOf];omega
    ·have e2:q=cs.length:=by omega
     subst e2
     have HF:Hid (lT os cs cs.length=gW [] os):=gu (by rw[HJ.all];exact KI os cs)
     go_wp2
     go_ret
     refine⟨_,rfl,?_,HQ.below⟩
     have ho:=(gB HQ).out
     rw[gB HF]at ho
     have hl2:(gW [] os).length=cs.length:=by rw[HJ.all,di]
     rw[hl2]at ho ⊢
     exact nT ho (by omega)
end Dh
namespace Dh
open Bs
open Rd (iL iH)
theorem jN(p:Pc)(r:List Pc):heavy (p::r)=1+p.2.length+heavy r:=by
 simp only[heavy,aj,bH,dW];omega
theorem mM(a b:List Pc):heavy (a++b)=heavy a+heavy b:=by
 simp only[heavy,bP,List.sum_append,ak];omega
theorem iQ(n:Nat):∀(l:List UInt8) (ps:List Pc),l.length<=n->pieces l=some ps->heavy ps<=l.length:=by
 induction n with
 |zero=>
  intro l ps hl h
  match l,hl with
  |[],_=>rw[qX]at h;cases h
 |succ n ih=>
  intro l ps hl h
  match l,hl with
  |[],_=>rw[qX]at h;cases h
  |c::r,hl=>
   by_cases e1:c.toNat=255
   ·rw[uS c r e1]at h
    cases h
    simp[heavy]
   ·by_cases e0:c.toNat=0
    ·rw[sW c r e0]at h
     have:=ih r ps (by simp at hl;omega) h
     simp only[aj];omega
    ·match r,hl with
     |[],_=>rw[tV c e1 e0]at h;cases h
     |m::q,hl=>
      by_cases hq:q.length<m.toNat
      ·rw[vB c m q e1 e0 hq]at h;cases h
      ·have h':=(sD c m q e1 e0 hq).symm.trans h
       cases hp:pieces (q.drop m.toNat)with
       |none=>rw[hp]at h';cases h'
       |some ps'=>
        rw[hp]at h'
        obtain rfl:=aU h'
        have:=ih (q.drop m.toNat) ps' (by simp at hl ⊢;omega) hp
        rw[aW]at this
        rw[jN]
        simp only[aj,aT]
        omega
theorem IJ(ps:List Pc)(c:UInt8):heavy (drop ps c)<=heavy ps:=by
 induction ps with
 |nil=>exact ai _
 |cons p r ih=>
  simp only[drop,bA]at ih ⊢
  split
  ·rw[jN,jN];omega
  ·rw[jN];omega
def jm:List ByteArray->Option (List Pc)
 |[]=>some []
 |a::r=>(pieces a.data.toList).bind fun p=>(jm r).map fun q=>p++q
def strsOf(ps:List Pc)(host file:ByteArray):List ByteArray:=if has ps 52 then pE (data ps 52) host file else []
theorem OJ(ps:List Pc)(host file:ByteArray):(strsOf ps host file).length<=2:=by
 unfold strsOf pE
 split
 ·rw[ak];split<;>split<;>simp
 ·simp
theorem Oi(ps:List Pc)(host file:ByteArray)(n:Nat)(hh:host.size<=n)(hf:file.size<=n):∀s ∈ strsOf ps host file,s.size<=n:=fun s hs=>by
 unfold strsOf pE at hs
 split at hs
 ·rw[dV]at hs
  rcases hs with hs|hs
  ·split at hs
   ·simp at hs;subst hs;exact hf
   ·simp at hs
  ·split at hs
   ·simp at hs;subst hs;exact hh
   ·simp at hs
 ·simp at hs
theorem B_(d:List UInt8)(host file:ByteArray):jZ (m_ d) (yX d) file.data.toList host.data.toList=jm (pE d host file):=by
 unfold jZ pE
 cases hF:m_ d<;>cases hH:yX d
 ·rfl
 ·simp only[jm,bN,if_false,fE,bY]
  cases pieces host.data.toList<;>simp
 ·simp only[jm,bN,if_false,fE,bn]
  cases pieces file.data.toList<;>simp
 ·simp only[jm,fE,cu,bY]
  cases pieces file.data.toList<;>cases pieces host.data.toList<;>simp
theorem xe(l:List UInt8)(host file:ByteArray)(h:pieces l=none):nE l host.data.toList file.data.toList=1:=by rw[nE,h]
theorem zT(l:List UInt8)(host file:ByteArray)(ps:List Pc)(h:pieces l=some ps)(h1:has ps 52=true)(h2:kM (data ps 52)=false):nE l host.data.toList file.data.toList=2:=by
 rw[nE,h];simp[h1,h2]
theorem Ke(l:List UInt8)(host file:ByteArray)(ps:List Pc)(h:pieces l=some ps)(h1:has ps 52=true->kM (data ps 52)=true):
  nE l host.data.toList file.data.toList=(match jm (strsOf ps host file)with|none=>1|some m=>if has m 52 then 2 else 0):=by
 rw[nE,h]
 unfold strsOf
 cases hh:has ps 52
 ·simp only[hh,bN,if_false,jm]
  rfl
 ·have h2:=h1 hh
  simp only[hh,fE,h2,B_]
  cases jm (pE (data ps 52) host file)<;>rfl
theorem KJ(l:List UInt8)(host file:ByteArray)(ps m:List Pc)(h:pieces l=some ps)(hm:jm (strsOf ps host file)=some m):
  oW l host.data.toList file.data.toList=gW [] (drop ps 52++m):=by
 rw[oW,h]
 unfold strsOf at hm
 cases hh:has ps 52
 ·rw[hh]at hm
  simp[jm]at hm
  subst hm
  simp only[hh,bN,if_false,bn,Ow ps 52 hh]
 ·rw[hh]at hm
  simp only[fE]at hm
  simp only[hh,fE]
  rw[B_,hm]
theorem DR(aa:List ByteArray)(k:Nat)(h:k<aa.length)(ms qs:List Pc)(h0:jm aa=(jm (aa.drop k)).map fun x=>ms++x)(hp:pieces aa[k].data.toList=some qs):
  jm aa=(jm (aa.drop (k+1))).map fun x=>(ms++qs)++x:=by
 refine h0.trans ?_
 rw[aV h,jm,hp]
 cases jm (aa.drop (k+1))with
 |none=>rfl
 |some x=>simp
theorem IK(aa:List ByteArray)(k:Nat)(h:k<aa.length)(ms:List Pc)(h0:jm aa=(jm (aa.drop k)).map fun x=>ms++x)(hp:pieces aa[k].data.toList=none):jm aa=none:=by
 refine h0.trans ?_
 rw[aV h,jm,hp]
 rfl
def SA(w:fV)(a:Option Addr)(ss:List ByteArray):Prop:=∀i (h:i<ss.length),∃ad,a=some ad/\w.cell? (ad.add i)=some (.string ss[i])
theorem SA.below{w w':fV}{a:Option Addr}{ss:List ByteArray}{n:Nat}(h:SA w a ss)(hb:gm n w w')(hn:w.heap.size<=n):SA w' a ss:=fun i hi=>by
 obtain⟨ad,e,h0⟩:=h i hi
 have l0:=CP h0
 exact⟨ad,e,by rw[hb.cell (by omega)];exact h0⟩
theorem SA.own{w:fV}{b:Nat}{ao:Option Addr}{cp:Nat}{ss:List ByteArray}(h:w.ownsRow b 9 1 (.slice ao ss.length cp) ss.length (ss.map Value.string)):SA w ao ss:=fun i hi=>by
 obtain⟨g,rfl,_⟩:=jv h (by omega)
 exact⟨(a_ g 0),rfl,h.cells (g:=g) rfl i _ (by simp[hi])⟩
theorem At.own{w:fV}{b:Nat}{ao:Option Addr}{cp:Nat}{os:gU}(h:w.ownsRow b 151 2 (.slice ao os.length cp) os.length (gT os)):At w ao os:=by
 by_cases hn:0<os.length
 ·obtain⟨g,rfl,_⟩:=jv h hn
  exact At.Jr (h.cells (g:=g) rfl)
 ·exact fun i hi=>by omega
theorem xI{w:fV}{b e z:Nat}{v:Value}{n:Nat}{xs:List Value}(h:w.ownsRow b e z v n xs):(v=.slice none 0 0/\n=0)∨∃g cp,v=.slice (some (a_ g 0)) n cp:=by
 rcases h.2 with h0|⟨g,cap,cur,rfl,_⟩
 ·exact au h0
 ·exact aA ⟨g,cap,rfl⟩
end Dh
namespace Dh
open Bs
open Rd (iL iH jh gH jD iR)
theorem own_below{w w':fV}{b e z:Nat}{v:Value}{n:Nat}{xs:List Value}(h:w.ownsRow b e z v n xs)(hb:gm w.heap.size w w'):w'.ownsRow b e z v n xs:=
 h.kept (w':=w') (row:=none) ⟨hb.os,hb.tape,hb.output,hb.size,fun i hi _=>hb.block i hi⟩ (by cases h:v.ownBlock<;>simp)
def Jb(l:List UInt8)(host file:ByteArray)(B:Nat)(w:fV)(e:Ending)(w':fV):Prop:=
 w.grownBy w' (some B)/\(if nE l host.data.toList file.data.toList=0 then ∃v,e=.returned v/\w'.ownsRow w.heap.size 151 2 v (oW l host.data.toList file.data.toList).length (gT (oW l host.data.toList file.data.toList))else e=.panicked (iH (nE l host.data.toList file.data.toList)))
theorem uu{l:List UInt8}{host file:ByteArray}{B:Nat}{w w':fV}(k:Nat)(hk:nE l host.data.toList file.data.toList=k)(h0:k≠0)(hg:w.grownBy w' (some B)):Jb l host file B w (.panicked (iH k)) w':=by
 refine⟨hg,?_⟩
 rw[hk,ax h0]
theorem PR(B:Nat)(l:List UInt8)(host file:ByteArray)(w:fV)(h:iL w B l)(hl:l.length<=1048576)(hh:host.size<=1048576)(hf:file.size<=1048576):
  f_ Vh 278 #[p_ B,.string host,.string file] w fun e w'=>Jb l host file B w e w':=by
 obtain⟨i1,hj,hy0,hy1,hy2⟩:=Vx lM
 have HR:=gu h
 have hB:=h.lt
 clear h
 go_enter func278,ntmps278
 go_wp2_with fail
 refine(Fa B l _ HR (by omega)).mono ?_
 rintro e w1 ⟨hg1,hpost⟩
 cases hp:pieces l with
 |none=>
  rw[hp]at hpost
  simp only at hpost
  subst hpost
  exact⟨rfl,uu 1 (xe l host file hp) (by omega) hg1⟩
 |some ps=>
  rw[hp]at hpost
  obtain⟨v1,rfl,hown1⟩:=hpost
  obtain⟨ao1,cp1,rfl⟩:=ib hown1
  have hps:=iQ l.length l ps (ai _) hp
  have HA1:=gu (At.own hown1)
  have HG1:=gu hg1
  have hz1:=hg1.size
  have HP:=gu hp
  have HAR:=gu (Ki ao1 cp1 ps host file w1 HA1 (by omega))
  clear hg1 hp hown1
  go_wp2_with fail
  refine HAR.mono ?_
  rintro e w2 ⟨hb2,harea⟩
  have HB2:=gu hb2
  have hz2:=hb2.size
  by_cases hbad:has ps 52=true/\kM (data ps 52)=false
  ·rw[ay hbad.1,ax (by rw[hbad.2];decide)]at harea
   subst harea
   exact⟨rfl,uu 2 (zT l host file ps HP hbad.1 hbad.2) (by omega) (jh HG1 hb2)⟩
  ·have hok:has ps 52=true->kM (data ps 52)=true:=fun h1=>by
    by_cases h2:kM (data ps 52)=true
    ·exact h2
    ·exact absurd ⟨h1,by simpa using h2⟩ hbad
   have hcom:∃a2 c2,e=.returned (.slice a2 (strsOf ps host file).length c2)/\SA w2 a2 (strsOf ps host file):=by
    unfold strsOf
    by_cases h1:has ps 52=true
    ·rw[ay h1,ay (hok h1)]at harea
     obtain⟨v,rfl,hv⟩:=harea
     obtain⟨a2,c2,rfl⟩:=ib hv
     rw[ay h1]
     exact⟨a2,c2,rfl,SA.own hv⟩
    ·rw[ax h1]at harea
     rw[ax h1]
     exact⟨none,0,harea,fun i hi=>by simp at hi⟩
   obtain⟨a2,c2,rfl,hsa⟩:=hcom
   have hsl:=OJ ps host file
   have HSM:=gu (Oi ps host file 1048576 hh hf)
   have HK:=gu (Ke l host file ps HP hok)
   have HLL:=gu (fun m=>KJ l host file ps m HP)
   obtain⟨ss,hss⟩:∃ss,ss=strsOf ps host file:=⟨_,rfl⟩
   rw[<-hss]at hsa hsl HSM HK HLL ⊢
   have HSA:=gu hsa
   clear harea hb2 hbad hok hsa hss HAR
   go_wp2
   go_loopw [8,21] (fun v8 i wr=>∃(k:Nat) (ms:List Pc),k<=ss.length/\i=Vb Vg k/\heavy ms<=1048576*k/\Hid (jm ss=(jm (ss.drop k)).map fun x=>ms++x)/\Hid (wr.ownsRow w2.heap.size 151 2 v8 ms.length (gT ms))/\Hid (gm w2.heap.size w2 wr)) (fun _ i _=>ss.length-(intOf i).toNat)
   case atStart=>exact⟨0,[],aN _,rfl,by simp[heavy],gu (by simp),gu (Vp _ _ _ _),gu (R9 _ _)⟩
   case round=>
    obtain⟨k,ms,hk,rfl,hmh,HM,HO,HW⟩:=hrel
    rename fV=>wr
    have hmsl:ms.length<=heavy ms:=by unfold heavy;omega
    have hwz:=HW.size
    by_cases hlt:k<ss.length
    ·obtain⟨ad,rfl,c0⟩:=HSA.below HW (ai _) k hlt
     have hsz:=HSM _ (bz hlt)
     obtain⟨s,hs⟩:∃s,s=ss[k]:=⟨_,rfl⟩
     rw[<-hs]at c0 hsz
     have HMS:=gu (DR ss k hlt ms)
     have HMN:=gu (IK ss k hlt ms HM)
     rw[<-hs]at HMS HMN
     have hRd:iL (wr.alloc (.cells #[.string s] 217)) wr.heap.size s.data.toList:=by
      have q:=G8 wr (.cells #[.string s] 217)
      unfold iL
      rw[Rd.mQ]
      exact q
     have HOP:=gu (Fa wr.heap.size s.data.toList _ hRd (by rw[aF];show s.size<=_;omega))
     have hhq:s.data.toList.length<=1048576:=by rw[aF];exact hsz
     clear hRd hs
     go_wp2_with fail
     refine HOP.mono ?_
     rintro e w3 ⟨hg3,hpost⟩
     have hB3:gm w2.heap.size w2 w3:=(HW.alloc hwz _).grown hg3 (by simp;omega) (fun x hx=>by cases hx;omega)
     have hO3:=(HO.alloc (.cells #[.string s] 217)).kept hg3 (not_row (fun g hg e=>by cases e;have:=(HO.lt _ hg).2;omega))
     cases hp:pieces s.data.toList with
     |none=>
      rw[hp]at hpost
      simp only at hpost
      subst hpost
      refine⟨rfl,uu 1 ?_ (by omega) (jh (jh HG1 HB2) hB3)⟩
      rw[gB HK,HMN hp]
     |some qs=>
      rw[hp]at hpost
      obtain⟨v3,rfl,hown3⟩:=hpost
      have hqh:=iQ _ s.data.toList qs (ai _) hp
      have hqs:qs.length<=heavy qs:=by unfold heavy;omega
      have HST:=gu (HMS qs HM hp)
      have O3:=gu hO3
      have B3:=gu hB3
      have Q3:=gu hown3
      have hz3:=hB3.size
      clear hg3 hO3 hB3 HM HMS HMN hp HOP
      rcases xI hown3 with⟨rfl,hq0⟩|⟨g3,cp3,rfl⟩
      ·have hqn:qs=[]:=bD hq0
       subst hqn
       clear hown3
       go_wp2_with (at_builtin;refine wpList_append_own_none rfl (.tmp 27) (.tmp 28) 184 rfl w2.heap.size 151 i1 2 bM hj _ _ _ rfl O3 rfl ?_)
       obtain⟨a8,c8,hv8⟩:=ib O3
       subst hv8
       go_wp2
       go_roundw
       case rel=>exact⟨k+1,ms,by omega,by go_num,by omega,gu (by have q:=gB HST;rwa [bn]at q),O3,B3⟩
       case measure=>simp[intOf];omega
      ·have hcs:=hown3.cells (g:=g3) rfl
       have HCS:=gu hcs
       have HLN:=gu (kr qs)
       have hO3z:=(gB O3)
       clear hown3 hcs hO3z
       go_wp2_with (at_builtin;refine Vv _ rfl (.tmp 27) (.tmp 28) 184 rfl w2.heap.size 151 i1 (.agg #[Vb Vd 0,.string ⟨#[]⟩]) 2 24 bM hj hy0 hy1 hy2 rfl (by decide) _ _ _ rfl O3 (a_ g3 0) qs.length cp3 (gT qs) rfl HLN HCS (jM _) ?h63 ?hby ?hba ?_)
       case h63=>simp only[maxLen];omega
       case hby=>omega
       case hba=>omega
       ·intro v' w4 hown4 hg4 _
        have hB4:gm w2.heap.size w2 w4:=B3.grown hg4 hz3 (fun x hx=>(O3.lt x hx).1)
        have hO4:w4.ownsRow w2.heap.size 151 2 v' (ms++qs).length (gT (ms++qs)):=by rw[ak,iV];exact hown4
        obtain⟨a8,c8,hv8⟩:=ib hown4
        have O4:=gu hO4
        have B4:=gu hB4
        clear hown4 hg4 hB4 hO4
        subst hv8
        go_wp2
        go_roundw
        case rel=>exact⟨k+1,ms++qs,by omega,by go_num,by rw[mM];omega,HST,O4,B4⟩
        case measure=>simp[intOf];omega
    ·have e0:k=ss.length:=by omega
     subst e0
     have hMA:jm ss=some ms:=by
      refine HM.trans ?_
      rw[List.drop_length,jm]
      simp
     have HKK:=gu (show nE l host.data.toList file.data.toList=if has ms 52 then 2 else 0 by rw[gB HK,hMA])
     have HOL:=gu (HLL ms hMA)
     obtain⟨a8,c8,hv8⟩:=ib HO
     subst hv8
     have hmh2:heavy ms<=2097152:=by omega
     have HD:=gu (Jy a8 c8 ms wr (At.own HO) (by omega))
     clear HM hMA HK HLL HSM HSA hmh
     go_wp2_with fail
     refine HD.mono ?_
     rintro e w5 ⟨rfl,hb5⟩
     have hB5:gm w2.heap.size w2 w5:=HW.trans (hb5.mono hwz)
     have hO5:=own_below HO hb5
     have B5:=gu hB5
     have O5:=gu hO5
     have hz5:=hB5.size
     clear hb5 hB5 hO5 HD HO
     by_cases hag:has ms 52=true
     ·rw[hag]
      go_wp2_with fail
      refine(iR _ (by simp) _ _).mono ?_
      rintro e w6 ⟨rfl,rfl⟩
      refine⟨rfl,uu 2 ?_ (by omega) (jh (jh HG1 HB2) B5)⟩
      rw[gB HKK,ay hag]
     ·have hag':has ms 52=false:=by simpa using hag
      have HK0:Hid (nE l host.data.toList file.data.toList=0):=gu (by rw[gB HKK,ax hag])
      rw[hag']
      clear hag HKK
      go_wp2_with fail
      refine(jD _ (by simp) _ _).mono ?_
      rintro e w6 ⟨rfl,rfl⟩
      have HWO:=gu (GA ao1 cp1 ps w6 ((HA1.below HB2 (ai _)).below B5 (ai _)) (by omega))
      go_wp2_with fail
      refine HWO.mono ?_
      rintro e w7 ⟨v7,rfl,hown7,hb7⟩
      have hdh:=IJ ps 52
      have hdl:(drop ps 52).length<=heavy (drop ps 52):=by unfold heavy;omega
      have hB7:gm w2.heap.size w2 w7:=B5.trans (hb7.mono hz5)
      have hO7:=own_below O5 hb7
      have hz7:=hb7.size
      have O7:=gu hown7
      have Q7:=gu hO7
      have B7:=gu hB7
      clear hown7 hb7 hO7 hB7 HWO O5 B5
      rcases xI Q7 with⟨hnil,hq0⟩|⟨g8,cp8,hsl8⟩
      ·have hmn:ms=[]:=bD hq0
       subst hmn
       cases hnil
       go_wp2_with (at_builtin;refine wpList_append_own_none rfl (.tmp 40) (.tmp 41) 184 rfl w6.heap.size 151 i1 2 bM hj _ _ _ rfl O7 rfl ?_)
       have hO8:w7.ownsRow w6.heap.size 151 2 v7 (drop ps 52++ []).length (gT (drop ps 52++ [])):=by rw[bn];exact O7
       obtain⟨X,hX⟩:∃X,X=drop ps 52++ []:=⟨_,rfl⟩
       have hXh:heavy X<=3145728:=by rw[hX,mM];simp only[heavy,aP,dE,List.sum_nil]at hdh hps ⊢;omega
       rw[<-hX]at hO8 HOL
       clear hX
       obtain⟨a10,c10,hv10⟩:=ib hO8
       subst hv10
       have HJN:=gu (zq a10 c10 X w7 (At.own hO8) (by omega))
       go_wp2_with fail
       refine HJN.mono ?_
       rintro e w9 ⟨v9,rfl,hown9,hb9⟩
       obtain⟨a11,c11,hv11⟩:=ib hown9
       subst hv11
       have O9:=gu hown9
       have B9:=gu (B7.trans (hb9.mono (by omega)))
       have hz9:w.heap.size<=w7.heap.size:=by omega
       clear hown9 hb9
       go_wp2
       go_ret
       refine⟨jh (jh HG1 HB2) B9,?_⟩
       rw[gB HK0,ay rfl,gB HOL]
       exact⟨_,rfl,nT O9 hz9⟩
      ·cases hsl8
       have HCS:=gu (Q7.cells (g:=g8) rfl)
       have HLN:=gu (kr ms)
       go_wp2_with (at_builtin;refine Vv _ rfl (.tmp 40) (.tmp 41) 184 rfl w6.heap.size 151 i1 (.agg #[Vb Vd 0,.string ⟨#[]⟩]) 2 24 bM hj hy0 hy1 hy2 rfl (by decide) _ _ _ rfl O7 (a_ g8 0) ms.length _ (gT ms) rfl HLN HCS (jM _) ?h63 ?hby ?hba ?_)
       case h63=>simp only[maxLen];omega
       case hby=>omega
       case hba=>omega
       ·intro v10 w8 hown8 hg8 _
        have hB8:gm w2.heap.size w2 w8:=B7.grown hg8 (by omega) (fun x hx=>by have:=(O7.lt x hx).1;omega)
        have hO8:w8.ownsRow w6.heap.size 151 2 v10 (drop ps 52++ms).length (gT (drop ps 52++ms)):=by rw[ak,iV];exact hown8
        have hz8:=hg8.size
        have B8:=gu hB8
        clear hown8 hg8 hB8
        obtain⟨X,hX⟩:∃X,X=drop ps 52++ms:=⟨_,rfl⟩
        have hXh:heavy X<=3145728:=by rw[hX,mM];omega
        rw[<-hX]at hO8 HOL
        clear hX
        obtain⟨a10,c10,hv10⟩:=ib hO8
        subst hv10
        have HJN:=gu (zq a10 c10 X w8 (At.own hO8) (by omega))
        go_wp2_with fail
        refine HJN.mono ?_
        rintro e w9 ⟨v9,rfl,hown9,hb9⟩
        obtain⟨a11,c11,hv11⟩:=ib hown9
        subst hv11
        have O9:=gu hown9
        have B9:=gu (B8.trans (hb9.mono (by omega)))
        have hz9:w.heap.size<=w8.heap.size:=by omega
        clear hown9 hb9
        go_wp2
        go_ret
        refine⟨jh (jh HG1 HB2) B9,?_⟩
        rw[gB HK0,ay rfl,gB HOL]
        exact⟨_,rfl,nT O9 hz9⟩
end Dh
namespace og
open Bs Rb Wt rO
theorem lZ{a b:ByteArray}{k:Int}(h:a=b):Ending.returned (.tuple #[.string a,Vb Vg k])=.returned (.tuple #[.string b,Vb Vg k]):=by rw[h]
theorem join(a b c d e f a' b' c' d' e' f':UInt8)(ty:Int)(load:ByteArray):
  mK ((((⟨#[a,b,c,d,e,f]⟩:ByteArray)++⟨#[a',b',c',d',e',f']⟩)++⟨#[gJ (ty/256),gJ ty]⟩)++load) 60=⟨(Ee [a,b,c,d,e,f,a',b',c',d',e',f'] ty load).toArray⟩:=by
 have e1:((((⟨#[a,b,c,d,e,f]⟩:ByteArray)++⟨#[a',b',c',d',e',f']⟩)++⟨#[gJ (ty/256),gJ ty]⟩)++load)=⟨([a,b,c,d,e,f,a',b',c',d',e',f']++iy ty++load.data.toList).toArray⟩:=by
  apply aC
  apply aJ
  simp[aO,iy]
 rw[e1,Ee,mK]
 generalize [a,b,c,d,e,f,a',b',c',d',e',f']++iy ty++load.data.toList=L
 have e2:(⟨L.toArray⟩:ByteArray).size=L.length:=by show L.toArray.size=_;simp
 rw[e2]
 split
 ·have e3:60-L.length=0:=by omega
  rw[e3];simp
 ·exact vT L _
theorem Am(a b c d e f a' b' c' d' e' f':UInt8)(ty:Int)(load:ByteArray)(w:fV)(h1:0<=ty)(h2:ty<=65535)(h3:load.size<=262144)(ht:o9 ty=true)(hl:ko load=true):
  f_ Vh 133 #[.agg (rE a.toNat b.toNat c.toNat d.toNat e.toNat f.toNat a'.toNat b'.toNat c'.toNat d'.toNat e'.toNat f'.toNat ty load)] w fun ee w'=>
   ee=.returned (.tuple #[.string ⟨(Ee [a,b,c,d,e,f,a',b',c',d',e',f'] ty load).toArray⟩,Vb Vg 0])/\gm w.heap.size w w':=by
 have ht1:1536<=ty:=bQ ht
 have hs:load.size<=1500:=bQ hl
 have hq1:IntKind.i64.wrap ty=ty:=wrap_i64 _ (by omega) (by omega)
 have hsz3:((((⟨#[a,b,c,d,e,f]⟩:ByteArray)++⟨#[a',b',c',d',e',f']⟩)++⟨#[gJ (ty/256),gJ ty]⟩)).size=14:=by
  rw[aM,aM];rfl
 have hadd:=fun u=>Vr (P:=Vh) u (((⟨#[a,b,c,d,e,f]⟩:ByteArray)++⟨#[a',b',c',d',e',f']⟩)++⟨#[gJ (ty/256),gJ ty]⟩) load (by rw[hsz3];omega)
 have hsz4:((((⟨#[a,b,c,d,e,f]⟩:ByteArray)++⟨#[a',b',c',d',e',f']⟩)++⟨#[gJ (ty/256),gJ ty]⟩)++load).size<=1099511627776:=by rw[aM,hsz3];omega
 have HZ:=gu hsz4
 clear ht hl hsz3 hsz4
 go_enter func133,ntmps133
 go_wp2
 go_region_held3 (fun u=>u.cell? (a_ w.heap.size 0)=some (Vb Vd a.toNat)/\u.cell? (a_ w.heap.size 1)=some (Vb Vd b.toNat)/\u.cell? (a_ w.heap.size 2)=some (Vb Vd c.toNat)/\u.cell? (a_ w.heap.size 3)=some (Vb Vd d.toNat)/\u.cell? (a_ w.heap.size 4)=some (Vb Vd e.toNat)/\u.cell? (a_ w.heap.size 5)=some (Vb Vd f.toNat)/\u.cell? (a_ w.heap.size 6)=some (Vb Vd a'.toNat)/\u.cell? (a_ w.heap.size 7)=some (Vb Vd b'.toNat)/\u.cell? (a_ w.heap.size 8)=some (Vb Vd c'.toNat)/\u.cell? (a_ w.heap.size 9)=some (Vb Vd d'.toNat)/\u.cell? (a_ w.heap.size 10)=some (Vb Vd e'.toNat)/\u.cell? (a_ w.heap.size 11)=some (Vb Vd f'.toNat)/\u.cell? (a_ w.heap.size 12)=some (Vb Ve ty)/\u.cell? (a_ w.heap.size 13)=some (.string load)
   /\w.heap.size<u.heap.size) (go_keep)
   (first|(go_at_call 131;refine(jG _ _ (by omega) (by omega)).mono ?_;rintro ee u ⟨rfl,hb⟩;have hc:=iF hb;have hz:=hb.size;have hzz:w.heap.size<u.heap.size:=by first|omega|(simp at hz;omega))|(go_at_call 132;refine(uy _ _ _ _ _ _ _).mono ?_;rintro ee u ⟨rfl,hb⟩;have hc:=iF hb;have hz:=hb.size;have hzz:w.heap.size<u.heap.size:=by first|omega|(simp at hz;omega))|(go_at_call 135;refine(qy _ 60 _ HZ (by omega)).mono ?_;rintro ee u ⟨rfl,hb⟩;have hc:=iF hb;have hz:=hb.size;have hzz:w.heap.size<u.heap.size:=by first|omega|(simp at hz;omega)))
 go_wp2
 go_ret2
 refine⟨lZ (join a b c d e f a' b' c' d' e' f' ty load),?_⟩
 refine VK ?_ (VY ‹gm _ _ _› ?_)
 rotate_left
 ·omega
 refine VK ?_ (VY ‹gm _ _ _› ?_)
 rotate_left
 ·omega
 refine VK ?_ (VY ‹gm _ _ _› ?_)
 rotate_left
 ·omega
 refine VK ?_ (VY ‹gm _ _ _› ?_)
 rotate_left
 ·show w.heap.size<=(w.alloc _).heap.size
  simp
 exact((R9 _ _).alloc (ai _) _).drew
theorem kz(a b c d e f a' b' c' d' e' f':UInt8)(ty:Int)(load:ByteArray)(w:fV)(h1:0<=ty)(h2:ty<=65535)(h3:load.size<=262144):
  f_ Vh 133 #[.agg (rE a.toNat b.toNat c.toNat d.toNat e.toNat f.toNat a'.toNat b'.toNat c'.toNat d'.toNat e'.toNat f'.toNat ty load)] w fun ee w'=>
   ee=.returned (.tuple #[.string (ni [a,b,c,d,e,f,a',b',c',d',e',f'] ty load),Vb Vg (wX ty load)])/\gm w.heap.size w w':=by
 cases ht:o9 ty with
 |false=>
  have e1:ni [a,b,c,d,e,f,a',b',c',d',e',f'] ty load=⟨#[]⟩:=by simp[ni,ht]
  have e2:wX ty load=3:=by simp[wX,ht]
  have ht1: ¬1536<=ty:=fq ht
  rw[e1,e2]
  clear ht e1 e2
  go_enter func133,ntmps133
  go_wp2
  go_ret2
  exact⟨rfl,(R9 _ _).alloc (ai _) _⟩
 |true=>
  cases hl:ko load with
  |false=>
   have e1:ni [a,b,c,d,e,f,a',b',c',d',e',f'] ty load=⟨#[]⟩:=by simp[ni,hl]
   have e2:wX ty load=7:=by simp[wX,ht,hl]
   have ht1:1536<=ty:=bQ ht
   have hl1: ¬load.size<=1500:=fq hl
   rw[e1,e2]
   clear ht hl e1 e2
   go_enter func133,ntmps133
   go_wp2
   go_ret2
   exact⟨rfl,(R9 _ _).alloc (ai _) _⟩
  |true=>
   have e1:ni [a,b,c,d,e,f,a',b',c',d',e',f'] ty load=⟨(Ee [a,b,c,d,e,f,a',b',c',d',e',f'] ty load).toArray⟩:=by simp[ni,ht,hl]
   have e2:wX ty load=0:=by simp[wX,ht,hl]
   rw[e1,e2]
   exact Am a b c d e f a' b' c' d' e' f' ty load w h1 h2 h3 ht hl
end og
namespace rO
open Bs Rb Wt
theorem sM(op:Int)(a b c d e f:UInt8)(fi:Int)(a' b' c' d' e' f':UInt8)(ti:Int)(w:fV)
  (h1:0<=op) (h2:op<=65535) (h3:0<=fi) (h4:fi<=4294967295) (h5:0<=ti) (h6:ti<=4294967295) (hop:(op==1||op==2)=true):
  f_ Vh 151 #[.agg (rA op a.toNat b.toNat c.toNat d.toNat e.toNat f.toNat fi a'.toNat b'.toNat c'.toNat d'.toNat e'.toNat f'.toNat ti)] w fun ee w'=>
   ee=.returned (.tuple #[.string ⟨(GJ op [a,b,c,d,e,f] fi [a',b',c',d',e',f'] ti).toArray⟩,Vb Vg 0])/\gm w.heap.size w w':=by
 have HO:=gu (oQ op)
 go_enter func151,ntmps151
 go_wp2_with fail
 refine(HO _).mono ?_
 rintro ee w1 ⟨rfl,rfl⟩
 rw[hop]
 obtain⟨W,hW⟩:∃W,W=w.alloc (.cells (rA op a.toNat b.toNat c.toNat d.toNat e.toNat f.toNat fi a'.toNat b'.toNat c'.toNat d'.toNat e'.toNat f'.toNat ti) 115):=⟨_,rfl⟩
 have hz:W.heap.size=w.heap.size+1:=by rw[hW];simp
 have n0:=qI W
 rw[hz,hW]at n0
 have HN:=gu n0
 clear n0 hz hW W
 go_wp2_with fail
 refine(jC _ _ _ _ _ HN (by simp) (by decide)).mono ?_
 rintro ee w1 ⟨rfl,k1,q1⟩
 have r1:=iJ q1 (b:=w.heap.size) (by omega)
 have K1:=gu k1
 have Q1:=gu q1
 clear k1 q1
 go_wp2_with fail
 refine(ug _ _ _ _ _ K1 rfl (by omega) (by omega) (by simp)).mono ?_
 rintro ee w2 ⟨rfl,k2,q2⟩
 have r2:=iJ q2 (b:=w.heap.size) (by omega)
 have K2:=gu k2
 have Q2:=gu q2
 clear k2 q2
 go_wp2_with fail
 refine(ow _ _ _ _ _ _ _ _ _ _ K2 rfl (by simp[iy])).mono ?_
 rintro ee w3 ⟨rfl,k3,q3⟩
 have r3:=iJ q3 (b:=w.heap.size) (by omega)
 have K3:=gu k3
 have Q3:=gu q3
 clear k3 q3
 go_wp2_with fail
 refine(uL _ _ _ _ _ K3 rfl (by omega) (by omega) (by simp[iy])).mono ?_
 rintro ee w4 ⟨rfl,k4,q4⟩
 have r4:=iJ q4 (b:=w.heap.size) (by omega)
 have K4:=gu k4
 have Q4:=gu q4
 clear k4 q4
 go_wp2_with fail
 refine(ow _ _ _ _ _ _ _ _ _ _ K4 rfl (by simp[iy,g_,iY])).mono ?_
 rintro ee w5 ⟨rfl,k5,q5⟩
 have r5:=iJ q5 (b:=w.heap.size) (by omega)
 have K5:=gu k5
 have Q5:=gu q5
 clear k5 q5
 go_wp2_with fail
 refine(uL _ _ _ _ _ K5 rfl (by omega) (by omega) (by simp[iy,g_,iY])).mono ?_
 rintro ee w6 ⟨rfl,k6,q6⟩
 have r6:=iJ q6 (b:=w.heap.size) (by omega)
 have K6:=gu k6
 have Q6:=gu q6
 clear k6 q6
 go_wp2_with fail
 refine(lG _ _ _ K6).mono ?_
 rintro ee w7 ⟨rfl,rfl⟩
 clear r1 r2 r3 r4 r5 r6
 go_wp2
 go_ret2
 refine⟨rfl,?_⟩
 have q:=(((((Q1.trans Q2).trans Q3).trans Q4).trans Q5).trans Q6).below
 exact(((R9 w.heap.size w).alloc (ai _) _).alloc (by simp) _).trans (q.mono (by omega))
end rO
end Go.Proofs.YtbhbbeebncmaiaaGreatDoor
