import Derived.Test.YtdgacidndknceaaGreatDoorMg21
import Derived.Test.YtdgacidndknceaaGreatDoorMg24
set_option linter.all false
set_option maxHeartbeats 4000000
set_option maxRecDepth 10000
open Go.ChangeShapes Go.WideShapes Go.ChangeAt Go.RowKit
open Go renaming World → fV, Calls → f_
open Go.RowKit renaming Below → gm
open Go.Proofs.Tryz renaming prog → Vh
open Go.Value renaming int → Vb
open Go.IntKind renaming u8 → Vd, u16 → Ve, u32 → Vf, i64 → Vg
open Go.Proofs.Tryz
namespace Go.Proofs.YtdgacidndknceaaGreatDoor
namespace Tf
open Bs
theorem gL(l:List UInt8):(⟨l.toArray⟩:ByteArray).size=l.length:=by show l.toArray.size=_;simp
theorem C_(s:ByteArray)(l:List UInt8)(hsl:s.data.toList=l)(k:Nat)(hk:k<l.length)(u:fV):(Instr.index 9 (.string s) (Vb Vg (k:Int))).run Vh u=.ok (Vb Vd (l.getD k 0).toNat) u:=by
 have hz:s.size=l.length:=by rw[<-hsl,aF];rfl
 have h2:(k:Int)<(s.size:Int):=by omega
 have hk':k<s.size:=by omega
 have h3:s[k]=l.getD k 0:=by
  have hk2:k<s.data.size:=hk'
  have q:s.data[k]?=l[k]?:=by rw[<-hsl,dZ]
  rw[aY hk2,fe hk]at q
  rw[aR,fe hk]
  exact aU q
 simp[Instr.index,dL eT,asIntOf,h2,hk',go_sem,h3]
theorem AR{l:List UInt8}{k:Nat}(h:k<l.length)(h0:(l.take k).all D9=true)(h1:D9 (l.getD k 0)=true):(l.take (k+1)).all D9=true:=by
 rw[aL h,List.all_append,h0]
 rw[aR,fe h]at h1
 simpa using h1
theorem DL{l:List UInt8}{k:Nat}(h:k<l.length)(h1:D9 (l.getD k 0)=false):iM l=false:=by
 rw[aR,fe h]at h1
 unfold iM
 have:l.all D9=false:=by
  rw[<-Bool.not_eq_true,List.all_eq_true]
  intro hh
  have:=hh l[k] (bz h)
  simp at h1
  rw[h1]at this;cases this
 rw[this,Bool.and_false]
theorem Lc(s:ByteArray)(l:List UInt8)(hsl:s.data.toList=l):s.toList.isEmpty=l.isEmpty:=by rw[Vw,hsl]
theorem lI(s:ByteArray)(l:List UInt8)(w:fV)(hsl:s.data.toList=l)(hl:l.length<=9223372036854775807):
  f_ Vh 80 #[.string s] w fun e w'=>e=.returned (.bool (iM l))/\w'=w:=by
 have hz:s.size=l.length:=by rw[<-hsl,aF];rfl
 have hie:=Lc s l hsl
 have HIX:=M0 (fun k hk u=>C_ s l hsl k hk u)
 have HZ:=M0 hz
 clear hsl hz
 go_enter func80,ntmps80
 go_wp2
 go_loop [6] (fun i=>∃k:Nat,k<=l.length/\i=Vb Vg k/\Hid ((l.take k).all D9=true)) (fun i=>l.length-(intOf i).toNat)
 case atStart=>exact⟨0,aN _,rfl,M0 rfl⟩
 case round=>
  obtain⟨k,hk,rfl,HA⟩:=hrel
  have hz:=gB HZ
  by_cases hlt:k<l.length
  ·have x0:=HIX k hlt
   have hlt':(k:Int)<(s.size:Int):=by omega
   have l0:=(l.getD k 0).toNat_lt
   have hcd:D9 (l.getD k 0)=decide (33<=(l.getD k 0).toNat/\(l.getD k 0).toNat<=126):=rfl
   have HBAD:=M0 (fun h=>DL (l:=l) hlt h)
   have HOK:=M0 (fun h=>AR (l:=l) hlt HA h)
   obtain⟨c,hc⟩:∃c,c=l.getD k 0:=⟨_,rfl⟩
   rw[<-hc]at x0 l0 hcd HBAD HOK
   obtain⟨y,hy⟩:∃y:Nat,y=c.toNat:=⟨_,rfl⟩
   rw[<-hy]at x0 l0 hcd
   have HC:=M0 hcd
   clear hc hcd hz
   by_cases h33:y<33
   ·have g0:(y:Int)<33:=by omega
    have HN:Hid (iM l=false):=M0 (HBAD (by rw[gB HC,dB];omega))
    clear HBAD HOK hy
    go_wp2
    go_ret
    exact⟨by rw[gB HN];rfl,rfl⟩
   ·have g0: ¬(y:Int)<33:=by omega
    by_cases h126:126<y
    ·have g1:(126:Int)<(y:Int):=by omega
     have HN:Hid (iM l=false):=M0 (HBAD (by rw[gB HC,dB];omega))
     clear HBAD HOK hy
     go_wp2
     go_ret
     exact⟨by rw[gB HN];rfl,rfl⟩
    ·have g1: ¬(126:Int)<(y:Int):=by omega
     have HN:Hid ((l.take (k+1)).all D9=true):=M0 (HOK (by rw[gB HC,cZ];omega))
     clear HBAD HOK hy
     go_wp2
     go_round
     case rel=>exact⟨k+1,by omega,by go_num,HN⟩
     case measure=>simp[intOf];omega
  ·have hlt': ¬(k:Int)<(s.size:Int):=by omega
   have HN:Hid (iM l= !l.isEmpty):=M0 (by
    have q:=gB HA
    rw[bG (by omega)]at q
    unfold iM;rw[q,Bool.and_true])
   clear hz
   go_wp2
   go_ret
   exact⟨by rw[gB HN];rfl,rfl⟩
def Bt(w:fV)(g:Nat)(L:List UInt8):Prop:=
 ∃cur t fz,w.heap[g]?=some (.cells cur t fz)/\(L.length<=fz.1∨fz.2=0)/\∀j (h:j<L.length),cur[j]?=some (Vb Vd L[j].toNat)
theorem Bt.cell{w:fV}{g:Nat}{L:List UInt8}(h:Bt w g L)(j:Nat)(hj:j<L.length):w.cell? (a_ g j)=some (Vb Vd (L.getD j 0).toNat):=by
 obtain⟨cur,t,fz,hg,_,hc⟩:=h
 rw[dh w g j _ _ _ hg,hc j hj,aR,fe hj];rfl
theorem Bt.free{w:fV}{g:Nat}{L:List UInt8}(h:Bt w g L)(j:Nat)(hj:j<L.length):w.frozen? (a_ g j)=false:=by
 obtain⟨cur,t,fz,hg,hf,hc⟩:=h
 obtain⟨lo,hi⟩:=fz
 simp only[World.frozen?,hg,Bool.and_eq_false_iff,dB]
 simp only at hf
 omega
theorem Bt.set{w:fV}{g:Nat}{L:List UInt8}(h:Bt w g L)(j:Nat)(hj:j<L.length)(x:UInt8):Bt (w.setCell (a_ g j) (Vb Vd x.toNat)) g (L.set j x):=by
 obtain⟨cur,t,fz,hg,hf,hc⟩:=h
 refine⟨cur.setIfInBounds j (Vb Vd x.toNat),t,fz,?_,by rw[bO];exact hf,fun i hi=> ?_⟩
 ·rw[VD w g j cur t fz _ hg];exact VB w g cur _ t _ hg
 ·rw[bO]at hi
  have hz:j<cur.size:=(dF.1 (hc j hj)).1
  rw[dC]
  by_cases e:j=i
  ·subst e
   rw[ay rfl,ay hz,List.getElem_set_self]
  ·rw[ax e,hc i hi,List.getElem_set_ne e]
theorem Bt.new(w:fV)(s:ByteArray)(l:List UInt8)(hsl:s.data.toList=l):Bt (w.drew.alloc (.cells (bytesRow s (grownCap w s.size 0 5)) 5 ((bytesRow s (grownCap w s.size 0 5)).size,(bytesRow s (grownCap w s.size 0 5)).size+1))) w.heap.size l:=by
 have hz:s.size=l.length:=by rw[<-hsl,aF];rfl
 have hge:=grownCap_ge w s.size 0 5
 have hrz:(bytesRow s (grownCap w s.size 0 5)).size=grownCap w s.size 0 5:=by
  simp only[bytesRow,Array.size_append,Array.size_map,Array.size_replicate]
  have:s.data.size=s.size:=rfl
  omega
 refine⟨_,_,_,G8 w.drew _,au ?_,fun j hj=> ?_⟩
 ·show l.length<=(bytesRow s (grownCap w s.size 0 5)).size
  rw[hrz];omega
 ·have hj2:j<s.data.size:=by show j<s.size;omega
  rw[bytesRow,Array.getElem?_append_left (by rw[Array.size_map];exact hj2),Array.getElem?_map,aY hj2]
  subst hsl
  rfl
def nP(l:List UInt8)(k:Nat):List UInt8:=pg (l.take k)++l.drop k
theorem ol(l:List UInt8)(k:Nat):(nP l k).length=l.length:=by
 unfold nP;rw[ak,mE,aT,aW];omega
theorem CB(l:List UInt8)(k:Nat)(h:k<l.length):(nP l k).getD k 0=l.getD k 0:=by
 unfold nP
 rw[aR,cB (by rw[mE,aT];omega),mE,aT,BL (by omega),Nat.sub_self,List.getElem?_drop,fQ,aR]
theorem Aa(l:List UInt8)(k:Nat)(h:k<l.length):(nP l k).set k (DZ (l.getD k 0))=nP l (k+1):=by
 unfold nP
 rw[o7 _ _ (by rw[mE,aT];omega),mE,aT,BL (by omega),Nat.sub_self,aL h,aV h,ah]
 rw[aR,fe h,pg,pg,bP,bg]
 rfl
theorem Ib(l:List UInt8)(k:Nat)(h:k<l.length)(hc:DZ (l.getD k 0)=l.getD k 0):nP l k=nP l (k+1):=by
 have q:=Aa l k h
 rw[hc]at q
 rw[<-q]
 have hz:k<(nP l k).length:=by rw[ol];exact h
 have e:=CB l k h
 rw[aR,fe hz]at e
 simp only[Option.getD_some]at e
 rw[<-e,List.set_getElem_self]
theorem GI(l:List UInt8):nP l 0=l:=by simp[nP,pg]
theorem KD(l:List UInt8):nP l l.length=pg l:=by simp[nP]
theorem xB(s:ByteArray)(l:List UInt8)(w:fV)(hsl:s.data.toList=l)(hl:l.length<=1099511627776):
  f_ Vh 198 #[.string s] w fun e w'=>e=.returned (.string ⟨(pg l).toArray⟩)/\gm w.heap.size w w':=by
 have hz:s.size=l.length:=by rw[<-hsl,aF];rfl
 have hcv:=fun(w:fV)=>run_bytes_of_string (P:=Vh) w 9 73 5 s eT eP bU
 have HB0:=M0 (Bt.new w s l hsl)
 have HZ:=M0 hz
 clear hsl
 go_enter func198,ntmps198
 rw[hz]at HB0
 go_wp2
 go_loopw [10] (fun i wr=>∃k:Nat,k<=l.length/\i=Vb Vg k/\Hid (Bt wr w.heap.size (nP l k))/\Hid (gm w.heap.size w wr)) (fun i _=>l.length-(intOf i).toNat)
 case atStart=>exact⟨0,aN _,rfl,M0 (by rw[GI];exact HB0),M0 (((R9 _ w).alloc (ai _) _).drew)⟩
 case round=>
  obtain⟨k,hk,rfl,HB,HW⟩:=hrel
  rename fV=>wr
  by_cases hlt:k<l.length
  ·have c0:=HB.cell k (by rw[ol];exact hlt)
   have f0:=HB.free k (by rw[ol];exact hlt)
   rw[CB l k hlt]at c0
   have HS:=M0 (fun x=>HB.set k (by rw[ol];exact hlt) x)
   have hlt':(k:Int)<(l.length:Int):=by omega
   have HN:=M0 (Aa l k hlt)
   have HM:=M0 (Ib l k hlt)
   have hlc:=vN (l.getD k 0)
   obtain⟨c,hc⟩:∃c,c=l.getD k 0:=⟨_,rfl⟩
   rw[<-hc]at c0 HN HM hlc
   have l0:=c.toNat_lt
   obtain⟨y,hy⟩:∃y:Nat,y=c.toNat:=⟨_,rfl⟩
   rw[<-hy]at c0 l0 hlc
   have HLC:=M0 hlc
   have HY:=M0 hy
   clear hc hy hlc
   by_cases hup:65<=y/\y<=90
   ·obtain⟨g0,g1⟩:=hup
    have g0':(65:Int)<=(y:Int):=by omega
    have g1':(y:Int)<=90:=by omega
    have q1:IntKind.u8.wrap ((y:Int)-65)=(y:Int)-65:=by rw[IntKind.wrap_u8];omega
    have q2:IntKind.u8.wrap ((y:Int)-65+97)=((DZ c).toNat:Int):=by rw[IntKind.wrap_u8,gB HLC,ay ⟨g0,g1⟩];omega
    go_wp2
    go_roundw
    case rel=>exact⟨k+1,by omega,by go_num,M0 (by rw[<-gB HN];exact HS _),M0 (HW.setCell (ai _) _)⟩
    case measure=>simp[intOf];omega
   ·have HE:Hid (nP l k=nP l (k+1)):=M0 (HM (by
     apply dD.1
     rw[gB HLC,ax hup,gB HY]))
    by_cases g0:65<=y
    ·have g0':(65:Int)<=(y:Int):=by omega
     have g1': ¬(y:Int)<=90:=by omega
     clear hup
     go_wp2
     go_roundw
     case rel=>exact⟨k+1,by omega,by go_num,M0 (by rw[<-gB HE];exact HB),HW⟩
     case measure=>simp[intOf];omega
    ·have g0': ¬(65:Int)<=(y:Int):=by omega
     clear hup
     go_wp2
     go_roundw
     case rel=>exact⟨k+1,by omega,by go_num,M0 (by rw[<-gB HE];exact HB),HW⟩
     case measure=>simp[intOf];omega
  ·have e:k=l.length:=by omega
   have HF:Hid (Bt wr w.heap.size (pg l)):=M0 (by rw[<-KD,<-e];exact HB)
   have hlt': ¬(k:Int)<(l.length:Int):=by omega
   have hcb:=VI (P:=Vh) wr 73 9 5 (a_ w.heap.size 0) (grownCap w l.length 0 5) (pg l) eP bU eT (fun j hj=>by
    rw[jB,HF.cell j hj,aR,fe hj];rfl)
   rw[mE]at hcb
   clear e hcv
   go_wp2
   go_ret
   exact⟨rfl,HW⟩
end Tf
namespace Lt
open Bs Rd
open Ip (lS uX)
def bt(l:List UInt8)(i:Nat):Int:=((l.getD i 0).toNat:Int)
def w2(l:List UInt8)(i:Nat):Int:=256*bt l i+bt l (i+1)
def w4(l:List UInt8)(i:Nat):Int:=16777216*bt l i+65536*bt l (i+1)+256*bt l (i+2)+bt l (i+3)
def Co(l:List UInt8):Int:=
 if l.length<20 then 1 else if bt l 0/16≠4∨bt l 0%16<5 then 2 else if 5<bt l 0%16 then 4
 else if w2 l 2<20 then 2 else if((l.length:Nat):Int)<w2 l 2 then 1 else if lS (l.take 20)≠0 then 6
 else if 32768<=w2 l 6∨bt l 8=0 then 2 else if w2 l 6%16384≠0 then 5 else 0
def xX(l:List UInt8)(x:Int):Int:=if Co l=0 then x else 0
def AA(l:List UInt8):ByteArray:=if Co l=0 then⟨((l.drop 20).take ((w2 l 2).toNat-20)).toArray⟩else⟨#[]⟩
theorem nJ{l:List UInt8}{k:Int}(h:Co l=k)(hk:k≠0)(x:Int):xX l x=0:=by unfold xX;rw[ax (by rw[h];exact hk)]
theorem EN{l:List UInt8}{k:Int}(h:Co l=k)(hk:k≠0):AA l=⟨#[]⟩:=by unfold AA;rw[ax (by rw[h];exact hk)]
theorem pX{l:List UInt8}(h:Co l=0)(x:Int):xX l x=x:=by unfold xX;rw[ay h]
theorem I_{l:List UInt8}(h:Co l=0):AA l=⟨((l.drop 20).take ((w2 l 2).toNat-20)).toArray⟩:=by unfold AA;rw[ay h]
theorem wL(a b:UInt8):bits .and .u16 (256*(a.toNat:Int)+(b.toNat:Int)) 32768=0↔256*(a.toNat:Int)+(b.toNat:Int)<32768:=by
 have ha:=a.toNat_lt;have hb:=b.toNat_lt
 have e:256*(a.toNat:Int)+(b.toNat:Int)=((256*a.toNat+b.toNat:Nat):Int):=by omega
 rw[e,LA _ (by omega)];omega
theorem FQ(a b:UInt8):bits .and .u16 (256*(a.toNat:Int)+(b.toNat:Int)) 16383=0↔(256*(a.toNat:Int)+(b.toNat:Int))%16384=0:=by
 have ha:=a.toNat_lt;have hb:=b.toNat_lt
 have e:256*(a.toNat:Int)+(b.toNat:Int)=((256*a.toNat+b.toNat:Nat):Int):=by omega
 rw[e,NG _ (by omega)];omega
theorem twenty(l:List UInt8)(h:20<=l.length):∃a0 a1 a2 a3 a4 a5 a6 a7 a8 a9 a10 a11 a12 a13 a14 a15 a16 a17 a18 a19 r,l=a0::a1::a2::a3::a4::a5::a6::a7::a8::a9::a10::a11::a12::a13::a14::a15::a16::a17::a18::a19::r:=by
 obtain⟨a0,a1,a2,a3,a4,a5,l1,rfl⟩:=gP.sixth l (by omega)
 simp only[aj]at h
 obtain⟨a6,a7,a8,a9,a10,a11,l2,rfl⟩:=gP.sixth l1 (by omega)
 simp only[aj]at h
 obtain⟨a12,a13,a14,a15,a16,a17,l3,rfl⟩:=gP.sixth l2 (by omega)
 simp only[aj]at h
 obtain⟨a18,a19,r,rfl⟩:=gP.second l3 (by omega)
 exact⟨a0,a1,a2,a3,a4,a5,a6,a7,a8,a9,a10,a11,a12,a13,a14,a15,a16,a17,a18,a19,r,rfl⟩
end Lt
namespace Ut
open Bs Rd Lt
open Ip (lS uX)
open Ud (kR)
def BD(l:List UInt8)(fr ta:Int):Int:=
 if l.length<8 then 1 else if w2 l 4<8 then 2 else if((l.length:Nat):Int)<w2 l 4 then 1
 else if w2 l 6≠0/\lS (kR fr ta (w2 l 4)++l.take (w2 l 4).toNat)≠0 then 6 else 0
def Lr(l:List UInt8)(fr ta x:Int):Int:=if BD l fr ta=0 then x else 0
def Ae(l:List UInt8)(fr ta:Int):ByteArray:=if BD l fr ta=0 then⟨((l.drop 8).take ((w2 l 4).toNat-8)).toArray⟩else⟨#[]⟩
theorem zi{l:List UInt8}{fr ta k:Int}(h:BD l fr ta=k)(hk:k≠0)(x:Int):Lr l fr ta x=0:=by unfold Lr;rw[ax (by rw[h];exact hk)]
theorem Ef{l:List UInt8}{fr ta k:Int}(h:BD l fr ta=k)(hk:k≠0):Ae l fr ta=⟨#[]⟩:=by unfold Ae;rw[ax (by rw[h];exact hk)]
theorem sS{l:List UInt8}{fr ta:Int}(h:BD l fr ta=0)(x:Int):Lr l fr ta x=x:=by unfold Lr;rw[ay h]
theorem JD{l:List UInt8}{fr ta:Int}(h:BD l fr ta=0):Ae l fr ta=⟨((l.drop 8).take ((w2 l 4).toNat-8)).toArray⟩:=by unfold Ae;rw[ay h]
theorem eight(l:List UInt8)(h:8<=l.length):∃a0 a1 a2 a3 a4 a5 a6 a7 r,l=a0::a1::a2::a3::a4::a5::a6::a7::r:=by
 obtain⟨a0,a1,a2,a3,a4,a5,l1,rfl⟩:=gP.sixth l (by omega)
 simp only[aj]at h
 obtain⟨a6,a7,r,rfl⟩:=gP.second l1 (by omega)
 exact⟨a0,a1,a2,a3,a4,a5,a6,a7,r,rfl⟩
end Ut
namespace Sp
open Bs Rd Lt Ut
open Ip (lS uX kG jY JP Ls)
open Ud (kR si tC Ff uG)
open pQ (jL fold tN)
open Wt (uO qU)
theorem Zo:∀(l:List UInt8) (j:Nat) (x:UInt8) (h:j<l.length),jL (l.set j x)=jL l+((x.toNat:Int)-(l[j].toNat:Int))*(if j%2=0 then 256 else 1)
 |[],j,x,h=>by simp at h
 |[a],0,x,h=>by simp only[ah,jL,dQ];simp;omega
 |[a],j+1,x,h=>by simp at h
 |a::b::r,0,x,h=>by simp only[ah,jL,dQ];simp;omega
 |a::b::r,1,x,h=>by simp only[af,ah,jL,dP,dQ];simp;omega
 |a::b::r,j+2,x,h=>by
  have ih:=Zo r j x (by simpa using h)
  simp only[af,jL,dP]
  rw[ih]
  have e:(j+2)%2=j%2:=by omega
  rw[e]
  omega
theorem af9(l:List UInt8):lS l=0↔0<jL l/\jL l%65535=0:=by
 have h:=tN l
 unfold lS fold
 split<;>omega
theorem ai0(l:List UInt8)(at':Nat)(c:Int)(h:at'+1<l.length)(he:at'%2=0)(z0:l[at']=0)(z1:l[at'+1]=0)(h0:0<=c)(h1:c<=65535):jL (uO l at' c)=jL l+c:=by
 unfold uO
 rw[Zo _ (at'+1) _ (by simpa using h),Zo l at' _ (by omega)]
 rw[List.getElem_set_ne (by omega)]
 rw[z0,z1,ay he,ax (by omega),lh,lh]
 simp
 omega
theorem ap6(l:List UInt8)(at':Nat)(h:at'+1<l.length)(he:at'%2=0)(z0:l[at']=0)(z1:l[at'+1]=0):lS (uO l at' (lS l))=0:=by
 have hb:=uX l
 rw[af9,ai0 l at' _ h he z0 z1 hb.1 hb.2]
 have hn:=tN l
 unfold lS fold at*
 split at hb<;>(split<;>omega)
theorem aC2(l:List UInt8)(at':Nat)(h:at'+1<l.length)(he:at'%2=0)(z0:l[at']=0)(z1:l[at'+1]=0)(hq:lS l=0):lS (uO l at' 65535)=0:=by
 rw[af9]at hq ⊢
 rw[ai0 l at' _ h he z0 z1 (by omega) (by omega)]
 omega
theorem aj9(n id ttl pr fr ta:Int):lS (kG n id ttl pr fr ta (lS (kG n id ttl pr fr ta 0)))=0:=by
 rw[<-JP]
 exact ap6 _ 10 (by rw[jY];omega) rfl rfl rfl
theorem al5(id ttl pr fr ta:Int)(load:ByteArray):(Ls id ttl pr fr ta load).length=20+load.size:=by
 rw[Ls,ak,jY,jc]
theorem ap9(f t fr ta:Int)(load:ByteArray):uG f t fr ta load=iy f++iy t++iy (8+load.size)++iy (Ff f t fr ta load)++load.data.toList:=rfl
theorem YY(f t fr ta:Int)(load:ByteArray):(uG f t fr ta load).length=8+load.size:=by
 rw[ap9];simp[iy];omega
theorem ak1(p l:List UInt8)(k:Nat)(c:Int):p++uO l k c=uO (p++l) (p.length+k) c:=by
 unfold uO
 rw[o7 _ _ (by omega),o7 _ _ (by omega)]
 have e1:p.length+k-p.length=k:=by omega
 have e2:p.length+k+1-p.length=k+1:=by omega
 rw[e1,e2]
theorem au2(f t fr ta:Int)(load:ByteArray):lS (kR fr ta (8+load.size)++uG f t fr ta load)=0:=by
 have e:kR fr ta (8+load.size)++uG f t fr ta load=uO (kR fr ta (8+load.size)++si f t load) 18 (Ff f t fr ta load):=by
  rw[uG,ak1];rfl
 have hlen:(kR fr ta (8+(load.size:Int))++si f t load).length=20+load.size:=by
  rw[ak,Ud.Fq];simp[si,iy];omega
 rw[e,Ff]
 split
 ·rename_i hq
  exact aC2 _ 18 (by omega) rfl rfl rfl hq
 ·exact ap6 _ 18 (by omega) rfl rfl rfl
end Sp
namespace Uw
open Bs Rd
open gP (gD gM gI jk iP iG jE)
theorem Fz{w:fV}{g:Nat}{t:TypeId}(b0 b1 b2 b3 b4 b5 v0 v1 v2 v3 v4 v5:Value)(h:w.heap[g]?=some (.cells #[b0,b1,b2,b3,b4,b5] t (0,0))):
  ((((((w.setCell (a_ g 0) v0).setCell (a_ g 1) v1).setCell (a_ g 2) v2).setCell (a_ g 3) v3).setCell (a_ g 4) v4).setCell (a_ g 5) v5).heap[g]?=some (.cells #[v0,v1,v2,v3,v4,v5] t (0,0)):=by
 have q:=gI (gI (gI (gI (gI (gI h 0 v0) 1 v1) 2 v2) 3 v3) 4 v4) 5 v5
 simpa only[ae,ah,af]using q
theorem jf(p:Addr)(x k:Int)(older:List PanicEntry)(w:fV)(hc:w.cell? p=some (Vb Vg x))(hz:w.frozen? p=false):
  CallsD Vh 103 #[.pointer (some p)] (.panicking ({v:=.iface 26 (Vb Vg k),recovered:=false}::older)) w fun e u' w'=>
   e=.returned (.tuple #[])/\u'=.panicking ({v:=.iface 26 (Vb Vg k),recovered:=true}::older)/\w'=w.setCell p (Vb Vg k):=by
 refine VE func103 rfl fun c₀ cs hu=> ?_
 apply VV
 apply VM
 simp[wpOpsS,go_sem,recoverD,hu,ntmps103,Exit.thenS]
 refine VP ?_
 change Code.wp _ _ _ {tmps:=#[.pointer (some p),.iface 26 (Vb Vg k),.iface 26 (Vb Vg k),undef,undef,undef,undef],defers:=[]} _
 have hta:=fun u=>jE k u
 go_wp2
 exact⟨rfl,_,rfl,.tuple #[],by simp[results,results103],rfl,rfl,rfl⟩
theorem kT(p:Addr)(w:fV):
  CallsD Vh 103 #[.pointer (some p)] .returning w fun e u' w'=>e=.returned (.tuple #[])/\u'=.returning/\w'=w:=by
 refine VE func103 rfl fun c₀ cs hu=> ?_
 apply VV
 apply VM
 simp[wpOpsS,go_sem,recoverD,hu,ntmps103,Exit.thenS]
 refine VP ?_
 change Code.wp _ _ _ {tmps:=#[.pointer (some p),.nilIface,.nilIface,undef,undef,undef,undef],defers:=[]} _
 go_wp2
 cases c₀
 simp_all[bodyPostS,results,results103]
theorem blocks{w w1 W:fV}{s:ByteArray}(g:W.grownBy w1 (some (w.heap.size+1+1)))(hW:W=((w.alloc (.cells zI_ 59)).alloc (.cells #[Vb Vg 0] 26)).alloc (.cells #[.string s] 166)):
  w1.heap[w.heap.size]?=some (.cells zI_ 59 (0,0))/\w1.heap[w.heap.size+1]?=some (.cells #[Vb Vg 0] 26 (0,0)):=by
 have z2:((w.alloc (.cells zI_ 59)).alloc (.cells #[Vb Vg 0] 26)).heap.size=w.heap.size+1+1:=by simp
 have z1:(w.alloc (.cells zI_ 59)).heap.size=w.heap.size+1:=by simp
 have e0:W.heap[w.heap.size]?=some (.cells zI_ 59 (0,0)):=by
  rw[hW,Vi _ _ _ (by omega),Vi _ _ _ (by omega)];exact G8 w _
 have e1:W.heap[w.heap.size+1]?=some (.cells #[Vb Vg 0] 26 (0,0)):=by
  rw[hW,Vi _ _ _ (by omega)]
  have q:=G8 (w.alloc (.cells zI_ 59)) (.cells #[Vb Vg 0] 26)
  rw[z1]at q
  exact q
 exact⟨(g.block _ (Vj e0) (fun q=>by simp at q;omega)).trans e0,(g.block _ (Vj e1) (fun q=>by simp at q)).trans e1⟩
theorem je(s:ByteArray)(k:Int)(w:fV)
  (hR:∀u B,iL u B s.data.toList->(∀b o,b<w.heap.size->u.cell? (a_ b o)=w.cell? (a_ b o))->f_ Vh 59 #[p_ B] u fun ee w'=>ee=.panicked (iH k)/\u.grownBy w' (some B)):
  f_ Vh 58 #[.string s,.func (.func 59) #[] #[]] w fun ee w'=>ee=.returned (.tuple #[.agg zI_,Vb Vg k])/\gm w.heap.size w w':=by
 have hmf:∀(fn:Fn) (first cap:Array Value) (w:fV),(Instr.makeFunc fn first cap).run Vh w=.ok (.func fn first cap) w:=fun _ _ _ _=>rfl
 have HR:=M0 hR
 clear hR
 go_enter_defers func58,ntmps58
 go_wp2_with fail
 refine(HR _ _ (iG _ _ s (by simp)) (fun b o hb=>((((R9 _ w).alloc (ai _) _).alloc (by simp) _).alloc (by simp;omega) _).cell (p:=(a_ b o)) hb)).mono ?_
 rintro ee w1 ⟨rfl,g1⟩
 obtain⟨hr,he⟩:=blocks g1 rfl
 have d0:w1.cell? (a_ w.heap.size 0)=some (Vb Ve 0):=gD hr rfl
 have d1:w1.cell? (a_ w.heap.size 1)=some (Vb Vd 0):=gD hr rfl
 have d2:w1.cell? (a_ w.heap.size 2)=some (Vb Vd 0):=gD hr rfl
 have d3:w1.cell? (a_ w.heap.size 3)=some (Vb Vf 0):=gD hr rfl
 have d4:w1.cell? (a_ w.heap.size 4)=some (Vb Vf 0):=gD hr rfl
 have d5:w1.cell? (a_ w.heap.size 5)=some (.string ⟨#[]⟩):=gD hr rfl
 have hc:=Vm he
 have hf:=Vy he
 refine VF (f:=103) (args:=#[p_ (w.heap.size+1)]) (by simp) (by simp[go_sem]) ?_
 refine(jf (a_ (w.heap.size+1) 0) 0 k [] _ hc hf).mono ?_
 rintro e u' w'' ⟨rfl,rfl,rfl⟩
 simp[Leaves,settle,results,results58,go_sem,d0,d1,d2,d3,d4,d5,hc]
 exact(jk g1 ((((R9 _ w).alloc (ai _) _).alloc (by simp) _).alloc (by simp;omega) _) (by omega)).setCell (by simp) _
theorem nK(s:ByteArray)(a0 a1 a2 a3 a4:Int)(a5:ByteArray)(w:fV)
  (hR:∀u B,iL u B s.data.toList->(∀b o,b<w.heap.size->u.cell? (a_ b o)=w.cell? (a_ b o))->f_ Vh 59 #[p_ B] u fun ee w'=>ee=.returned (.agg (rI a0 a1 a2 a3 a4 a5))/\u.grownBy w' (some B)):
  f_ Vh 58 #[.string s,.func (.func 59) #[] #[]] w fun ee w'=>ee=.returned (.tuple #[.agg (rI a0 a1 a2 a3 a4 a5),Vb Vg 0])/\gm w.heap.size w w':=by
 have hmf:∀(fn:Fn) (first cap:Array Value) (w:fV),(Instr.makeFunc fn first cap).run Vh w=.ok (.func fn first cap) w:=fun _ _ _ _=>rfl
 have HR:=M0 hR
 clear hR
 go_enter_defers func58,ntmps58
 go_wp2_with fail
 refine(HR _ _ (iG _ _ s (by simp)) (fun b o hb=>((((R9 _ w).alloc (ai _) _).alloc (by simp) _).alloc (by simp;omega) _).cell (p:=(a_ b o)) hb)).mono ?_
 rintro ee w1 ⟨rfl,g1⟩
 obtain⟨hr,he⟩:=blocks g1 rfl
 have d0:w1.cell? (a_ w.heap.size 0)=some (Vb Ve 0):=gD hr rfl
 have d1:w1.cell? (a_ w.heap.size 1)=some (Vb Vd 0):=gD hr rfl
 have d2:w1.cell? (a_ w.heap.size 2)=some (Vb Vd 0):=gD hr rfl
 have d3:w1.cell? (a_ w.heap.size 3)=some (Vb Vf 0):=gD hr rfl
 have d4:w1.cell? (a_ w.heap.size 4)=some (Vb Vf 0):=gD hr rfl
 have d5:w1.cell? (a_ w.heap.size 5)=some (.string ⟨#[]⟩):=gD hr rfl
 have fr:=gM hr
 have hc:=Vm he
 have hf:=Vy he
 have HB:=M0 (jk g1 ((((R9 _ w).alloc (ai _) _).alloc (by simp) _).alloc (by simp;omega) _) (by omega))
 obtain⟨U,hU⟩:∃U,U=(((((((w1.setCell (a_ w.heap.size 0) (Vb Ve a0)).setCell (a_ w.heap.size 1) (Vb Vd a1)).setCell (a_ w.heap.size 2) (Vb Vd a2)).setCell (a_ w.heap.size 3) (Vb Vf a3)).setCell (a_ w.heap.size 4) (Vb Vf a4)).setCell (a_ w.heap.size 5) (.string a5)).setCell (a_ (w.heap.size+1) 0) (Vb Vg 0)):=⟨_,rfl⟩
 have hu:U.heap[w.heap.size]?=some (.cells (rI a0 a1 a2 a3 a4 a5) 59 (0,0)):=by
  rw[hU,R8 _ _ _ _ (by simp)]
  exact Fz _ _ _ _ _ _ _ _ _ _ _ _ hr
 have u0:U.cell? (a_ w.heap.size 0)=some (Vb Ve a0):=gD hu rfl
 have u1:U.cell? (a_ w.heap.size 1)=some (Vb Vd a1):=gD hu rfl
 have u2:U.cell? (a_ w.heap.size 2)=some (Vb Vd a2):=gD hu rfl
 have u3:U.cell? (a_ w.heap.size 3)=some (Vb Vf a3):=gD hu rfl
 have u4:U.cell? (a_ w.heap.size 4)=some (Vb Vf a4):=gD hu rfl
 have u5:U.cell? (a_ w.heap.size 5)=some (.string a5):=gD hu rfl
 have hv:U.heap[w.heap.size+1]?=some (.cells #[Vb Vg 0] 26 (0,0)):=by
  rw[hU]
  refine VR (v:=Vb Vg 0) ?_
  rw[R8 _ _ _ _ (by simp),R8 _ _ _ _ (by simp),R8 _ _ _ _ (by simp),R8 _ _ _ _ (by simp),R8 _ _ _ _ (by simp),R8 _ _ _ _ (by simp)]
  exact he
 have HBU:Hid (gm w.heap.size w U):=by
  show gm w.heap.size w U
  rw[hU]
  refine VT ?_ (by simp) _
  iterate 6 refine iP ?_
  exact HB
 have uv:=Vm hv
 have HU:=M0 hU
 clear g1 hr he hu hv hU
 go_wp2
 rw[<-gB HU]
 clear HU d0 d1 d2 d3 d4 d5 hc hf fr
 refine VF (f:=103) (args:=#[p_ (w.heap.size+1)]) (by simp) (by simp[go_sem]) ?_
 refine(kT (a_ (w.heap.size+1) 0) _).mono ?_
 rintro e u' w'' ⟨rfl,rfl,rfl⟩
 simp[Leaves,settle,results,results58,go_sem,u0,u1,u2,u3,u4,u5,uv]
 exact HBU
theorem iU(s:ByteArray)(a0 a1 a2 a3 a4:Int)(a5:ByteArray)(k:Int)(w:fV)
  (hR:∀u:fV,f_ Vh 58 #[.string s,.func (.func 59) #[] #[]] u fun ee w'=>ee=.returned (.tuple #[.agg (rI a0 a1 a2 a3 a4 a5),Vb Vg k])/\gm u.heap.size u w'):
  f_ Vh 34 #[.string s] w fun ee w'=>ee=.returned (.tuple #[.agg (rI a0 a1 a2 a3 a4 a5),Vb Vg k])/\gm w.heap.size w w':=by
 have HR:=M0 hR
 clear hR
 go_enter func34,ntmps34
 go_wp2_with fail
 refine(HR _).mono ?_
 rintro ee w1 ⟨rfl,hb⟩
 have hr:w1.heap[w.heap.size]?=some (.cells zI_ 59 (0,0)):=(hb.block _ (by simp)).trans (G8 w _)
 have d0:w1.cell? (a_ w.heap.size 0)=some (Vb Ve 0):=gD hr rfl
 have d1:w1.cell? (a_ w.heap.size 1)=some (Vb Vd 0):=gD hr rfl
 have d2:w1.cell? (a_ w.heap.size 2)=some (Vb Vd 0):=gD hr rfl
 have d3:w1.cell? (a_ w.heap.size 3)=some (Vb Vf 0):=gD hr rfl
 have d4:w1.cell? (a_ w.heap.size 4)=some (Vb Vf 0):=gD hr rfl
 have d5:w1.cell? (a_ w.heap.size 5)=some (.string ⟨#[]⟩):=gD hr rfl
 have fr:=gM hr
 have HB:Hid (gm w.heap.size w w1):=M0 (((R9 _ w).alloc (ai _) _).trans (hb.mono (by simp)))
 obtain⟨U,hU⟩:∃U,U=((((((w1.setCell (a_ w.heap.size 0) (Vb Ve a0)).setCell (a_ w.heap.size 1) (Vb Vd a1)).setCell (a_ w.heap.size 2) (Vb Vd a2)).setCell (a_ w.heap.size 3) (Vb Vf a3)).setCell (a_ w.heap.size 4) (Vb Vf a4)).setCell (a_ w.heap.size 5) (.string a5)):=⟨_,rfl⟩
 have hu:U.heap[w.heap.size]?=some (.cells (rI a0 a1 a2 a3 a4 a5) 59 (0,0)):=by
  rw[hU]
  exact Fz _ _ _ _ _ _ _ _ _ _ _ _ hr
 have u0:U.cell? (a_ w.heap.size 0)=some (Vb Ve a0):=gD hu rfl
 have u1:U.cell? (a_ w.heap.size 1)=some (Vb Vd a1):=gD hu rfl
 have u2:U.cell? (a_ w.heap.size 2)=some (Vb Vd a2):=gD hu rfl
 have u3:U.cell? (a_ w.heap.size 3)=some (Vb Vf a3):=gD hu rfl
 have u4:U.cell? (a_ w.heap.size 4)=some (Vb Vf a4):=gD hu rfl
 have u5:U.cell? (a_ w.heap.size 5)=some (.string a5):=gD hu rfl
 have HBU:Hid (gm w.heap.size w U):=by
  show gm w.heap.size w U
  rw[hU]
  iterate 6 refine iP ?_
  exact HB
 have HU:=M0 hU
 clear hr hu hU hb HR
 go_wp2
 rw[<-gB HU]
 clear HU d0 d1 d2 d3 d4 d5 fr
 exact Vl (v:=.tuple #[.agg (rI a0 a1 a2 a3 a4 a5),Vb Vg k]) (by simp[results,results34,go_sem,u0,u1,u2,u3,u4,u5]) rfl ⟨rfl,HBU⟩
theorem Xu(s:ByteArray)(a0 a1 a2 a3 a4:Int)(a5:ByteArray)(k:Int)(w:fV)
  (hR:∀u:fV,f_ Vh 34 #[.string s] u fun ee w'=>ee=.returned (.tuple #[.agg (rI a0 a1 a2 a3 a4 a5),Vb Vg k])/\gm u.heap.size u w'):
  f_ Vh 20 #[.string s] w fun ee w'=>ee=.returned (.tuple #[.agg (rI a0 a1 a2 a3 a4 a5),Vb Vg k])/\gm w.heap.size w w':=by
 have HR:=M0 hR
 clear hR
 go_enter func20,ntmps20
 go_wp2_with fail
 refine(HR _).mono ?_
 rintro ee w1 ⟨rfl,hb⟩
 have hr:w1.heap[w.heap.size]?=some (.cells zI_ 59 (0,0)):=(hb.block _ (by simp)).trans (G8 w _)
 have d0:w1.cell? (a_ w.heap.size 0)=some (Vb Ve 0):=gD hr rfl
 have d1:w1.cell? (a_ w.heap.size 1)=some (Vb Vd 0):=gD hr rfl
 have d2:w1.cell? (a_ w.heap.size 2)=some (Vb Vd 0):=gD hr rfl
 have d3:w1.cell? (a_ w.heap.size 3)=some (Vb Vf 0):=gD hr rfl
 have d4:w1.cell? (a_ w.heap.size 4)=some (Vb Vf 0):=gD hr rfl
 have d5:w1.cell? (a_ w.heap.size 5)=some (.string ⟨#[]⟩):=gD hr rfl
 have fr:=gM hr
 have HB:Hid (gm w.heap.size w w1):=M0 (((R9 _ w).alloc (ai _) _).trans (hb.mono (by simp)))
 obtain⟨U,hU⟩:∃U,U=((((((w1.setCell (a_ w.heap.size 0) (Vb Ve a0)).setCell (a_ w.heap.size 1) (Vb Vd a1)).setCell (a_ w.heap.size 2) (Vb Vd a2)).setCell (a_ w.heap.size 3) (Vb Vf a3)).setCell (a_ w.heap.size 4) (Vb Vf a4)).setCell (a_ w.heap.size 5) (.string a5)):=⟨_,rfl⟩
 have hu:U.heap[w.heap.size]?=some (.cells (rI a0 a1 a2 a3 a4 a5) 59 (0,0)):=by
  rw[hU]
  exact Fz _ _ _ _ _ _ _ _ _ _ _ _ hr
 have u0:U.cell? (a_ w.heap.size 0)=some (Vb Ve a0):=gD hu rfl
 have u1:U.cell? (a_ w.heap.size 1)=some (Vb Vd a1):=gD hu rfl
 have u2:U.cell? (a_ w.heap.size 2)=some (Vb Vd a2):=gD hu rfl
 have u3:U.cell? (a_ w.heap.size 3)=some (Vb Vf a3):=gD hu rfl
 have u4:U.cell? (a_ w.heap.size 4)=some (Vb Vf a4):=gD hu rfl
 have u5:U.cell? (a_ w.heap.size 5)=some (.string a5):=gD hu rfl
 have HBU:Hid (gm w.heap.size w U):=by
  show gm w.heap.size w U
  rw[hU]
  iterate 6 refine iP ?_
  exact HB
 have HU:=M0 hU
 clear hr hu hU hb HR
 go_wp2
 rw[<-gB HU]
 clear HU d0 d1 d2 d3 d4 d5 fr
 exact Vl (v:=.tuple #[.agg (rI a0 a1 a2 a3 a4 a5),Vb Vg k]) (by simp[results,results20,go_sem,u0,u1,u2,u3,u4,u5]) rfl ⟨rfl,HBU⟩
end Uw
namespace Uy
open Bs Rd Lt
open Ip (lS uX)
open Go.Proofs.YtdgacidndknceaaGreatDoor.Uw
theorem zX(s:ByteArray)(L:List UInt8)(hL:s.data.toList=L)(w:fV)(hm:s.size<=262144):
  f_ Vh 34 #[.string s] w fun ee w'=>ee=.returned (.tuple #[.agg (rI (xX L (w2 L 4)) (xX L (bt L 8)) (xX L (bt L 9)) (xX L (w4 L 12)) (xX L (w4 L 16)) (AA L)),Vb Vg (Co L)])/\gm w.heap.size w w':=by
 have hl:=jc s
 rw[hL]at hl
 have E:∀k,Co L=k->k≠0->(∀u:fV,f_ Vh 34 #[.string s] u fun ee w'=>ee=.returned (.tuple #[.agg zI_,Vb Vg k])/\gm u.heap.size u w')->
   f_ Vh 34 #[.string s] w fun ee w'=>ee=.returned (.tuple #[.agg (rI (xX L (w2 L 4)) (xX L (bt L 8)) (xX L (bt L 9)) (xX L (w4 L 12)) (xX L (w4 L 16)) (AA L)),Vb Vg (Co L)])/\gm w.heap.size w w':=by
  intro k h0 h1 h2
  rw[nJ h0 h1,nJ h0 h1,nJ h0 h1,nJ h0 h1,nJ h0 h1,EN h0 h1,h0]
  exact h2 w
 by_cases hn:L.length<20
 ·exact E 1 (by unfold Co;rw[ay hn]) (by decide) (fun u=>iU s 0 0 0 0 0 ⟨#[]⟩ 1 u (fun u=>je s 1 u (fun u B h _=>by rw[hL]at h;exact zo B L u h hn)))
 ·obtain⟨a0,a1,a2,a3,a4,a5,a6,a7,a8,a9,a10,a11,a12,a13,a14,a15,a16,a17,a18,a19,r,hlist⟩:=twenty L (by omega)
  have heta:=mQ s
  rw[hL]at heta
  have b0:bt L 0=(a0.toNat:Int):=by rw[hlist];rfl
  have b2:w2 L 2=(256*(a2.toNat:Int)+(a3.toNat:Int)):=by rw[hlist];rfl
  have b6:w2 L 6=(256*(a6.toNat:Int)+(a7.toNat:Int)):=by rw[hlist];rfl
  have b8:bt L 8=(a8.toNat:Int):=by rw[hlist];rfl
  have tk:L.take 20=[a0,a1,a2,a3,a4,a5,a6,a7,a8,a9,a10,a11,a12,a13,a14,a15,a16,a17,a18,a19]:=by rw[hlist];rfl
  have dr:L.drop 20=r:=by rw[hlist];rfl
  have ln:L.length=r.length+20:=by rw[hlist];simp
  have hml:(a0::a1::a2::a3::a4::a5::a6::a7::a8::a9::a10::a11::a12::a13::a14::a15::a16::a17::a18::a19::r).length<=maxLen:=by rw[<-hlist];unfold maxLen;omega
  have p0:=a0.toNat_lt
  have hK:Co L=if bt L 0/16≠4∨bt L 0%16<5 then 2 else if 5<bt L 0%16 then 4
    else if w2 L 2<20 then 2 else if((L.length:Nat):Int)<w2 L 2 then 1 else if lS (L.take 20)≠0 then 6
    else if 32768<=w2 L 6∨bt L 8=0 then 2 else if w2 L 6%16384≠0 then 5 else 0:=by unfold Co;rw[ax hn]
  rw[b0,b2,b6,b8,tk,ln]at hK
  by_cases h1:a0.toNat/16=4
  ·by_cases h2:a0.toNat%16<5
   ·rw[ay (by omega)]at hK
    exact E 2 hK (by decide) (fun u=>iU s 0 0 0 0 0 ⟨#[]⟩ 2 u (fun u=>je s 2 u (fun u B h _=>by rw[hL,hlist]at h;exact zw B a0 a1 a2 a3 a4 a5 a6 a7 a8 a9 a10 a11 a12 a13 a14 a15 a16 a17 a18 a19 r u h hml 2 (fun u hu=>Gj B _ _ _ u hu hml h1 h2))))
   ·rw[ax (by omega)]at hK
    by_cases h3:5<a0.toNat%16
    ·rw[ay (by omega)]at hK
     exact E 4 hK (by decide) (fun u=>iU s 0 0 0 0 0 ⟨#[]⟩ 4 u (fun u=>je s 4 u (fun u B h _=>by rw[hL,hlist]at h;exact zw B a0 a1 a2 a3 a4 a5 a6 a7 a8 a9 a10 a11 a12 a13 a14 a15 a16 a17 a18 a19 r u h hml 4 (fun u hu=>F7 B _ _ _ u hu hml h1 h3))))
    ·have h69:a0.toNat=69:=by omega
     rw[ax (by omega)]at hK
     by_cases h4:(256*(a2.toNat:Int)+(a3.toNat:Int))<20
     ·rw[ay h4]at hK
      exact E 2 hK (by decide) (fun u=>iU s 0 0 0 0 0 ⟨#[]⟩ 2 u (fun u=>je s 2 u (fun u B h _=>by rw[hL,hlist]at h;exact BS B a0 a1 a2 a3 a4 a5 a6 a7 a8 a9 a10 a11 a12 a13 a14 a15 a16 a17 a18 a19 r u h hml h69 2 (fun u hu=>yn B _ _ _ _ _ u hu (by simp only[aj]at hml ⊢;unfold maxLen at hml ⊢;omega) (by omega)))))
     ·rw[ax h4]at hK
      by_cases h5:((r.length+20:Nat):Int)<(256*(a2.toNat:Int)+(a3.toNat:Int))
      ·rw[ay h5]at hK
       exact E 1 hK (by decide) (fun u=>iU s 0 0 0 0 0 ⟨#[]⟩ 1 u (fun u=>je s 1 u (fun u B h _=>by rw[hL,hlist]at h;exact BS B a0 a1 a2 a3 a4 a5 a6 a7 a8 a9 a10 a11 a12 a13 a14 a15 a16 a17 a18 a19 r u h hml h69 1 (fun u hu=>wo B _ _ _ _ _ u hu (by simp only[aj]at hml ⊢;unfold maxLen at hml ⊢;omega) (by omega) (by omega)))))
      ·rw[ax h5]at hK
       obtain⟨k,hk⟩:∃k:Nat,(256*(a2.toNat:Int)+(a3.toNat:Int))=20+(k:Int):=⟨((256*(a2.toNat:Int)+(a3.toNat:Int))-20).toNat,by omega⟩
       have hkr:k<=r.length:=by omega
       by_cases h6:lS [a0,a1,a2,a3,a4,a5,a6,a7,a8,a9,a10,a11,a12,a13,a14,a15,a16,a17,a18,a19]=0
       ·rw[ax (fun q=>q h6)]at hK
        by_cases h7:32768<=(256*(a6.toNat:Int)+(a7.toNat:Int))
        ·rw[ay (au h7)]at hK
         exact E 2 hK (by decide) (fun u=>iU s 0 0 0 0 0 ⟨#[]⟩ 2 u (fun u=>je s 2 u (fun u B h _=>by rw[hL,hlist]at h;exact CR B a0 a1 a2 a3 a4 a5 a6 a7 a8 a9 a10 a11 a12 a13 a14 a15 a16 a17 a18 a19 r u h hml h69 k hk hkr (by omega) h6 (fun q=>h7|>fun h7=>by rw[wL]at q;omega))))
        ·by_cases h8:(a8.toNat:Int)=0
         ·rw[ay (aA h8)]at hK
          exact E 2 hK (by decide) (fun u=>iU s 0 0 0 0 0 ⟨#[]⟩ 2 u (fun u=>je s 2 u (fun u B h _=>by rw[hL,hlist]at h;exact GG B a0 a1 a2 a3 a4 a5 a6 a7 a8 a9 a10 a11 a12 a13 a14 a15 a16 a17 a18 a19 r u h hml h69 k hk hkr (by omega) h6 ((wL _ _).2 (by omega)) h8)))
         ·rw[ax (by omega)]at hK
          by_cases h9:(256*(a6.toNat:Int)+(a7.toNat:Int))%16384=0
          ·rw[ax (fun q=>q h9)]at hK
           have e5:AA L=⟨(r.take k).toArray⟩:=by rw[I_ hK,dr,b2,hk];congr 3;omega
           rw[pX hK,pX hK,pX hK,pX hK,pX hK,e5,hK]
           have b4:w2 L 4=(256*(a4.toNat:Int)+(a5.toNat:Int)):=by rw[hlist];rfl
           have b9:bt L 9=(a9.toNat:Int):=by rw[hlist];rfl
           have b12:w4 L 12=(16777216*(a12.toNat:Int)+65536*(a13.toNat:Int)+256*(a14.toNat:Int)+(a15.toNat:Int)):=by rw[hlist];rfl
           have b16:w4 L 16=(16777216*(a16.toNat:Int)+65536*(a17.toNat:Int)+256*(a18.toNat:Int)+(a19.toNat:Int)):=by rw[hlist];rfl
           rw[b4,b8,b9,b12,b16]
           refine iU s _ _ _ _ _ _ 0 w (fun u=>nK s _ _ _ _ _ _ u (fun u B h _=> ?_))
           rw[hL,hlist]at h
           exact NT B a0 a1 a2 a3 a4 a5 a6 a7 a8 a9 a10 a11 a12 a13 a14 a15 a16 a17 a18 a19 r u h hml h69 k hk hkr (by omega) h6 ((wL _ _).2 (by omega)) h8 ((FQ _ _).2 h9)
          ·rw[ay h9]at hK
           exact E 5 hK (by decide) (fun u=>iU s 0 0 0 0 0 ⟨#[]⟩ 5 u (fun u=>je s 5 u (fun u B h _=>by rw[hL,hlist]at h;exact C8 B a0 a1 a2 a3 a4 a5 a6 a7 a8 a9 a10 a11 a12 a13 a14 a15 a16 a17 a18 a19 r u h hml h69 k hk hkr (by omega) h6 ((wL _ _).2 (by omega)) h8 (fun q=>h9 ((FQ _ _).1 q)))))
       ·rw[ay h6]at hK
        exact E 6 hK (by decide) (fun u=>iU s 0 0 0 0 0 ⟨#[]⟩ 6 u (fun u=>je s 6 u (fun u B h _=>by rw[hL,hlist]at h;exact IU B a0 a1 a2 a3 a4 a5 a6 a7 a8 a9 a10 a11 a12 a13 a14 a15 a16 a17 a18 a19 r u h hml h69 k hk hkr (by omega) h6)))
  ·rw[ay (by omega)]at hK
   exact E 2 hK (by decide) (fun u=>iU s 0 0 0 0 0 ⟨#[]⟩ 2 u (fun u=>je s 2 u (fun u B h _=>by rw[hL,hlist]at h;exact zw B a0 a1 a2 a3 a4 a5 a6 a7 a8 a9 a10 a11 a12 a13 a14 a15 a16 a17 a18 a19 r u h hml 2 (fun u hu=>Eg B _ _ _ u hu hml h1))))
end Uy
namespace UI
open Bs Rd
open gP (other gN gD gM gI)
open Ip (lS uX)
open Ud (kR mZ)
theorem xK(B:Nat)(l:List UInt8)(fr ta:Int)(w:fV)(h:iL w B l)(hn:l.length<8):
  f_ Vh 78 #[p_ B,Vb Vf fr,Vb Vf ta] w fun ee w'=>ee=.panicked (iH 1)/\w.grownBy w' (some B):=by
 have hB:=h.lt
 have hne0:w.heap.size≠B:=by omega
 have H0:=M0 (h.alloc (.cells zU_ 69))
 have G0:=M0 (gV (il w (some B)) (.cells zU_ 69))
 have R0:Hid ((w.alloc (.cells zU_ 69)).heap[w.heap.size]?=some (.cells zU_ 69 (0,0))):=G8 w _
 clear h
 go_enter func78,ntmps78
 go_wp2_with fail
 refine(vZ _ _ _ _ H0 (by omega)).mono ?_
 rintro ee wz ⟨rfl,hwz⟩
 exact⟨rfl,rfl,by rw[hwz];exact gB G0⟩
theorem A7(B:Nat)(a0 a1 a2 a3 a4 a5 a6 a7:UInt8)(l:List UInt8)(fr ta:Int)(w:fV)(h:iL w B (a0::a1::a2::a3::a4::a5::a6::a7::l))(hs:(a0::a1::a2::a3::a4::a5::a6::a7::l).length<=maxLen)(k:Int)(hx:∀u,iL u B (a4::a5::a6::a7::l)->f_ Vh 106 #[p_ B,Vb Vg 8,Vb Vg ((l.length+8:Nat):Int)] u fun e w'=>e=.panicked (iH k)/\u.grownBy w' (some B)):
  f_ Vh 78 #[p_ B,Vb Vf fr,Vb Vf ta] w fun ee w'=>ee=.panicked (iH k)/\w.grownBy w' (some B):=by
 obtain⟨s,hS⟩:∃s:ByteArray,s=⟨(a0::a1::a2::a3::a4::a5::a6::a7::l).toArray⟩:=⟨_,rfl⟩
 have hz:s.size=l.length+8:=by rw[hS,gL];simp
 have hmx:(s.size:Int)<=9223372036854775807:=by rw[hz];simp only[aj,maxLen]at hs;omega
 have hk8:(8:Int)<=(s.size:Int):=by omega
 have hB:=h.lt
 have hne0:w.heap.size≠B:=by omega
 have H0:=M0 (h.alloc (.cells zU_ 69))
 have G0:=M0 (gV (il w (some B)) (.cells zU_ 69))
 have R0:Hid ((w.alloc (.cells zU_ 69)).heap[w.heap.size]?=some (.cells zU_ 69 (0,0))):=G8 w _
 have hc0:(w.alloc (.cells zU_ 69)).cell? (a_ B 0)=some (.string s):=by rw[hS];exact Vm H0
 have hn0:(8:Int)<=((a0::a1::a2::a3::a4::a5::a6::a7::l).length:Int):=by simp only[aj];omega
 have HN0:=M0 hn0
 clear h hn0
 have T1:=M0 (fun u hu=>jo B a0 a1 (a2::a3::a4::a5::a6::a7::l) u hu (by simp only[aj,maxLen]at hs ⊢;omega))
 have T2:=M0 (fun u hu=>jo B a2 a3 (a4::a5::a6::a7::l) u hu (by simp only[aj,maxLen]at hs ⊢;omega))
 obtain⟨x0,hx0⟩:∃x,x=(256*(a0.toNat:Int)+(a1.toNat:Int)):=⟨_,rfl⟩
 obtain⟨x2,hx2⟩:∃x,x=(256*(a2.toNat:Int)+(a3.toNat:Int)):=⟨_,rfl⟩
 rw[<-hx0]at T1
 rw[<-hx2]at T2
 have T3:=M0 (fun u hu=>hx u hu)
 rw[<-hz]at T3
 clear hx hS hz hx0 hx2
 go_enter func78,ntmps78
 go_wp2_with fail
 refine(kQ _ _ _ _ H0 HN0).mono ?_
 rintro ee wz ⟨rfl,hwz⟩
 rw[hwz]
 clear hwz wz
 have hneV:w.heap.size+1≠B:=by omega
 have hlt0:w.heap.size<w.heap.size+1:=by omega
 have H1:=M0 (H0.alloc (.cells zU_ 69))
 have G1:=M0 (gV G0 (.cells zU_ 69))
 have E1:Hid (((w.alloc (.cells zU_ 69)).alloc (.cells zU_ 69)).heap[w.heap.size+1]?=some (.cells zU_ 69 (0,0))):=by
  have q:=G8 (w.alloc (.cells zU_ 69)) (.cells zU_ 69)
  rw[show(w.alloc (.cells zU_ 69)).heap.size=w.heap.size+1 by simp]at q
  exact q
 have R1:Hid (((w.alloc (.cells zU_ 69)).alloc (.cells zU_ 69)).heap[w.heap.size]?=some (.cells zU_ 69 (0,0))):=by
  show _=_
  rw[Vi _ _ _ (by simp)]
  exact R0
 clear H0 G0 R0
 go_wp2_with fail
 refine(T1 _ H1).mono ?_
 rintro ee w2 ⟨rfl,k2,g2⟩
 have hr:w2.heap[w.heap.size]?=some (.cells zU_ 69 (0,0)):=(g2.block _ (Vj R1) (fun q=>hne0 (by simpa using q))).trans R1
 have he:w2.heap[w.heap.size+1]?=some (.cells zU_ 69 (0,0)):=(g2.block _ (Vj E1) (fun q=>hneV (by simpa using q))).trans E1
 have c2_0:w2.cell? (a_ (w.heap.size+1) 0)=some (Vb Ve 0):=gD he rfl
 have f2:=gM he
 have E2:Hid ((w2.setCell (a_ (w.heap.size+1) 0) (Vb Ve x0)).heap[w.heap.size+1]?=some (.cells (rU x0 0 ⟨#[]⟩) 69 (0,0))):=gI he 0 (Vb Ve x0)
 have H2:Hid (iL (w2.setCell (a_ (w.heap.size+1) 0) (Vb Ve x0)) B (a2::a3::a4::a5::a6::a7::l)):=other k2 hneV.symm _
 have G2:Hid (w.grownBy (w2.setCell (a_ (w.heap.size+1) 0) (Vb Ve x0)) (some B)):=gN (gH G1 g2) (aK hlt0) _
 have R2:Hid ((w2.setCell (a_ (w.heap.size+1) 0) (Vb Ve x0)).heap[w.heap.size]?=some (.cells zU_ 69 (0,0))):=by
  show _=_
  rw[R8 _ _ _ _ (eG hlt0)];exact hr
 clear hr k2 g2 H1 G1 R1 he E1
 go_wp2_with fail
 refine(T2 _ H2).mono ?_
 rintro ee w3 ⟨rfl,k3,g3⟩
 have hr:w3.heap[w.heap.size]?=some (.cells zU_ 69 (0,0)):=(g3.block _ (Vj R2) (fun q=>hne0 (by simpa using q))).trans R2
 have he:w3.heap[w.heap.size+1]?=some (.cells (rU x0 0 ⟨#[]⟩) 69 (0,0)):=(g3.block _ (Vj E2) (fun q=>hneV (by simpa using q))).trans E2
 have c3_1:w3.cell? (a_ (w.heap.size+1) 1)=some (Vb Ve 0):=gD he rfl
 have f3:=gM he
 have E3:Hid ((w3.setCell (a_ (w.heap.size+1) 1) (Vb Ve x2)).heap[w.heap.size+1]?=some (.cells (rU x0 x2 ⟨#[]⟩) 69 (0,0))):=gI he 1 (Vb Ve x2)
 have H3:Hid (iL (w3.setCell (a_ (w.heap.size+1) 1) (Vb Ve x2)) B (a4::a5::a6::a7::l)):=other k3 hneV.symm _
 have G3:Hid (w.grownBy (w3.setCell (a_ (w.heap.size+1) 1) (Vb Ve x2)) (some B)):=gN (gH G2 g3) (aK hlt0) _
 have R3:Hid ((w3.setCell (a_ (w.heap.size+1) 1) (Vb Ve x2)).heap[w.heap.size]?=some (.cells zU_ 69 (0,0))):=by
  show _=_
  rw[R8 _ _ _ _ (eG hlt0)];exact hr
 clear hr k3 g3 H2 G2 R2 he E2
 go_wp2_with fail
 refine(T3 _ H3).mono ?_
 rintro ee wz ⟨rfl,gz⟩
 exact⟨rfl,rfl,gH G3 gz⟩
theorem G7{u:fV}{g:Nat}{t:TypeId}{b0 b1 b2:Value}(h:u.heap[g]?=some (.cells #[b0,b1,b2] t (0,0))):u.cell? (a_ g 0)=some b0/\u.cell? (a_ g 1)=some b1/\u.cell? (a_ g 2)=some b2:=by
 have q:=fun j=>dh u g j _ _ _ h
 exact⟨q 0,q 1,q 2⟩
theorem ZL(B:Nat)(a0 a1 a2 a3 a4 a5 a6 a7:UInt8)(l:List UInt8)(fr ta:Int)(w:fV)(h:iL w B (a0::a1::a2::a3::a4::a5::a6::a7::l))(hs:(a0::a1::a2::a3::a4::a5::a6::a7::l).length<=maxLen)(hf:0<=fr/\fr<=4294967295)(ho:0<=ta/\ta<=4294967295)(m k:Nat)(hmk:m=8+k)(hn:(256*(a4.toNat:Int)+(a5.toNat:Int))=(m:Int))(hk:k<=l.length)(hm:m<=65535)(hL:l.length<=1099511627776):
  f_ Vh 78 #[p_ B,Vb Vf fr,Vb Vf ta] w fun ee w'=>(if(256*(a6.toNat:Int)+(a7.toNat:Int))≠0/\lS (kR fr ta (m:Int)++(a0::a1::a2::a3::a4::a5::a6::a7::l).take m)≠0 then ee=.panicked (iH 6)else ee=.returned (.agg (rU (256*(a0.toNat:Int)+(a1.toNat:Int)) (256*(a2.toNat:Int)+(a3.toNat:Int)) ⟨(l.take k).toArray⟩)))/\w.grownBy w' (some B):=by
 obtain⟨s,hS⟩:∃s:ByteArray,s=⟨(a0::a1::a2::a3::a4::a5::a6::a7::l).toArray⟩:=⟨_,rfl⟩
 have hz:s.size=l.length+8:=by rw[hS,gL];simp
 have hmx:(s.size:Int)<=9223372036854775807:=by rw[hz];simp only[aj,maxLen]at hs;omega
 have hk8:(8:Int)<=(s.size:Int):=by omega
 have hB:=h.lt
 have hne0:w.heap.size≠B:=by omega
 have H0:=M0 (h.alloc (.cells zU_ 69))
 have hc0:(w.alloc (.cells zU_ 69)).cell? (a_ B 0)=some (.string s):=by rw[hS];exact Vm H0
 have hn0:(8:Int)<=((a0::a1::a2::a3::a4::a5::a6::a7::l).length:Int):=by simp only[aj];omega
 have HN0:=M0 hn0
 have SS:=M0 (VS.start 69 zU_ h)
 clear h hn0
 have T1:=M0 (fun u hu=>jo B a0 a1 (a2::a3::a4::a5::a6::a7::l) u hu (by simp only[aj,maxLen]at hs ⊢;omega))
 have T2:=M0 (fun u hu=>jo B a2 a3 (a4::a5::a6::a7::l) u hu (by simp only[aj,maxLen]at hs ⊢;omega))
 obtain⟨x0,hx0⟩:∃x,x=(256*(a0.toNat:Int)+(a1.toNat:Int)):=⟨_,rfl⟩
 obtain⟨x2,hx2⟩:∃x,x=(256*(a2.toNat:Int)+(a3.toNat:Int)):=⟨_,rfl⟩
 rw[<-hx0]at T1 ⊢
 rw[<-hx2]at T2 ⊢
 have T3:=(fun u hu=>uj B a4 a5 (a6::a7::l) 8 (s.size:Int) u hu (by simp only[aj,maxLen]at hs ⊢;omega) (by omega) (by omega))
 rw[hn]at T3
 have T3:=M0 T3
 have T4:=(fun u hu=>jo B a6 a7 l u hu (by simp only[aj,maxLen]at hs ⊢;omega))
 have hm1:(m:Int)<=(s.size:Int):=by omega
 obtain⟨x6,hx6⟩:∃x,x=(256*(a6.toNat:Int)+(a7.toNat:Int)):=⟨_,rfl⟩
 rw[<-hx6]at T4 ⊢
 have TC:=(fun u=>mZ (s.extract 0 m) fr ta u (by rw[aX];omega) hf ho)
 have esz:((s.extract 0 m).size:Int)=(m:Int):=by rw[aX];omega
 have edt:(s.extract 0 m).data.toList=(a0::a1::a2::a3::a4::a5::a6::a7::l).take m:=by rw[hS,iX]
 rw[esz,edt]at TC
 obtain⟨c,hc⟩:∃c,c=lS (kR fr ta (m:Int)++(a0::a1::a2::a3::a4::a5::a6::a7::l).take m):=⟨_,rfl⟩
 rw[<-hc]at TC ⊢
 have TC:=M0 TC
 clear esz edt hc hx6
 have T4:=M0 T4
 have T5:=M0 (fun u hu=>za B l k u hu (by omega) (by omega))
 have hq:IntKind.i64.wrap ((m:Int)-8)=(k:Int):=by rw[wrap_i64 _ (by omega) (by omega)];omega
 have hq2:(m:Int)-8=(k:Int):=by omega
 clear hS hz hx0 hx2 hn hmk
 go_enter func78,ntmps78
 go_wp2_with fail
 refine(kQ _ _ _ _ H0 HN0).mono ?_
 rintro ee wz ⟨rfl,hwz⟩
 rw[hwz]
 clear hwz wz H0
 have hneV:w.heap.size+1≠B:=by omega
 have hlt0:w.heap.size<w.heap.size+1:=by omega
 go_wp2_with fail
 refine(T1 _ SS.D8).mono ?_
 rintro ee w2 ⟨rfl,k1,g1⟩
 have SM:=M0 (SS.next k1 g1)
 have S2:=M0 (SM.sets [(0,Vb Ve x0)] (cs':=(rU x0 0 ⟨#[]⟩)) rfl)
 have x_0:=gP.gD SM.var (j:=0) rfl
 have f2:=SM.free.1
 clear k1 g1 SM SS
 go_wp2_with fail
 refine(T2 _ S2.D8).mono ?_
 rintro ee w3 ⟨rfl,k1,g1⟩
 have SM:=M0 (S2.next k1 g1)
 have S3:=M0 (SM.sets [(1,Vb Ve x2)] (cs':=(rU x0 x2 ⟨#[]⟩)) rfl)
 clear x_0 f2
 have x_1:=gP.gD SM.var (j:=1) rfl
 have f3:=SM.free.1
 clear k1 g1 SM S2
 go_wp2_with fail
 refine(T3 _ S3.D8).mono ?_
 rintro ee w4 ⟨rfl,k1,g1⟩
 have S4:=M0 (S3.next k1 g1)
 clear k1 g1 S3
 clear x_1 f3
 go_wp2_with fail
 refine(T4 _ S4.D8).mono ?_
 rintro ee w5 ⟨rfl,k1,g1⟩
 have S5:=M0 (S4.next k1 g1)
 clear k1 g1 S4
 rcases Decidable.em (x6=0)with h6|h6
 have HP:Hid (¬(x6≠0/\c≠0)):=M0 (fun q=>q.1 h6)
 subst h6
 have S6:=S5
 clear S5 TC
 go_wp2_with fail
 refine(jD _ (by simp) _ _).mono ?_
 rintro ee wz ⟨rfl,hwz⟩
 rw[hwz]
 clear hwz wz
 rotate_left
 have hqn:(x6==0)=false:=by simpa using h6
 go_wp2_with fail
 refine(TC _).mono ?_
 rintro ee w6 ⟨rfl,b6⟩
 have S6:=M0 (S5.below b6)
 clear b6 S5
 by_cases hc:c=0
 case neg=>
  have hcn:(c==0)=false:=by simpa using hc
  go_wp2_with fail
  refine(iR _ (by simp) _ _).mono ?_
  rintro ee wz ⟨rfl,hwz⟩
  exact⟨rfl,by rw[ay ⟨h6,hc⟩],by rw[hwz];exact S6.grown⟩
 have HP:Hid (¬(x6≠0/\c≠0)):=M0 (fun q=>q.2 hc)
 subst hc
 clear h6
 go_wp2_with fail
 refine(jD _ (by simp) _ _).mono ?_
 rintro ee wz ⟨rfl,hwz⟩
 rw[hwz]
 clear hwz wz
 rotate_left
 all_goals
  go_wp2_with fail
  refine(T5 _ S6.D8).mono ?_
  rintro ee w7 ⟨rfl,k1,g1⟩
  have S7:=M0 (S6.next k1 g1)
  have HG:=M0 ((S7.set 2 (.string ⟨(l.take k).toArray⟩)).done [(0,Vb Ve x0),(1,Vb Ve x2),(2,.string ⟨(l.take k).toArray⟩)])
  obtain⟨c0,c1,c2⟩:=G7 S7.var
  obtain⟨d0,d1,d2⟩:=G7 S7.res
  obtain⟨f1,f2⟩:=S7.free
  clear k1 g1 S6 S7
  go_wp2
  refine Vl (v:=.agg (rU x0 x2 ⟨(l.take k).toArray⟩)) (by simp[results,results78,go_sem,d0,d1,d2]) rfl ?_
  exact⟨by first|rfl|rw[ax (gB HP)],HG⟩
section
variable(B:Nat) (a0 a1 a2 a3 a4 a5 a6 a7:UInt8) (l:List UInt8) (fr ta:Int) (w:fV) (h:iL w B (a0::a1::a2::a3::a4::a5::a6::a7::l)) (hs:(a0::a1::a2::a3::a4::a5::a6::a7::l).length≤maxLen) (hf:0≤fr∧fr≤4294967295) (ho:0≤ta∧ta≤4294967295) (m k:Nat) (hmk:m=8+k) (hn:(256*(a4.toNat:Int)+(a5.toNat:Int))=(m:Int)) (hk:k≤l.length) (hm:m≤65535) (hL:l.length≤1099511627776)
include h hs hf ho hmk hn hk hm hL
theorem Dj(hq0:(256*(a6.toNat:Int)+(a7.toNat:Int))≠0)(hsum:lS (kR fr ta (m:Int)++(a0::a1::a2::a3::a4::a5::a6::a7::l).take m)≠0):f_ Vh 78 #[p_ B,Vb Vf fr,Vb Vf ta] w fun ee w'=>ee=.panicked (iH 6)/\w.grownBy w' (some B):=(ZL B a0 a1 a2 a3 a4 a5 a6 a7 l fr ta w h hs hf ho m k hmk hn hk hm hL).mono fun ee _ q=>⟨by have q:=q.1;rwa [ay ⟨hq0,hsum⟩]at q,q.2⟩
theorem Dy(hq0:(256*(a6.toNat:Int)+(a7.toNat:Int))=0):f_ Vh 78 #[p_ B,Vb Vf fr,Vb Vf ta] w fun ee w'=>ee=.returned (.agg (rU (256*(a0.toNat:Int)+(a1.toNat:Int)) (256*(a2.toNat:Int)+(a3.toNat:Int)) ⟨(l.take k).toArray⟩))/\w.grownBy w' (some B):=(ZL B a0 a1 a2 a3 a4 a5 a6 a7 l fr ta w h hs hf ho m k hmk hn hk hm hL).mono fun ee _ q=>⟨by have q:=q.1;rwa [ax (fun q=>q.1 hq0)]at q,q.2⟩
theorem Dr(hsum:lS (kR fr ta (m:Int)++(a0::a1::a2::a3::a4::a5::a6::a7::l).take m)=0):f_ Vh 78 #[p_ B,Vb Vf fr,Vb Vf ta] w fun ee w'=>ee=.returned (.agg (rU (256*(a0.toNat:Int)+(a1.toNat:Int)) (256*(a2.toNat:Int)+(a3.toNat:Int)) ⟨(l.take k).toArray⟩))/\w.grownBy w' (some B):=(ZL B a0 a1 a2 a3 a4 a5 a6 a7 l fr ta w h hs hf ho m k hmk hn hk hm hL).mono fun ee _ q=>⟨by have q:=q.1;rwa [ax (fun q=>q.2 hsum)]at q,q.2⟩
end
theorem Dl(B c1 c2:Nat)(fr ta k:Int)(L:List UInt8)(w:fV)(h:iL w B L)(l1:c1<w.heap.size)(l2:c2<w.heap.size)(h1:w.cell? (a_ c1 0)=some (Vb Vf fr))(h2:w.cell? (a_ c2 0)=some (Vb Vf ta))
  (hU:∀u,iL u B L->f_ Vh 78 #[p_ B,Vb Vf fr,Vb Vf ta] u fun ee w'=>ee=.panicked (iH k)/\u.grownBy w' (some B)):
  f_ Vh 77 #[p_ B,p_ c1,p_ c2] w fun ee w'=>ee=.panicked (iH k)/\w.grownBy w' (some B):=by
 have HU:=M0 (hU _ (h.alloc (.cells zU_ 69)))
 have n1:=(((R9 w.heap.size w).alloc (ai _) (.cells zU_ 69)).cell (p:=(a_ c1 0)) l1).trans h1
 have n2:=(((R9 w.heap.size w).alloc (ai _) (.cells zU_ 69)).cell (p:=(a_ c2 0)) l2).trans h2
 clear hU h
 go_enter func77,ntmps77
 go_wp2_with fail
 refine HU.mono ?_
 rintro ee w1 ⟨rfl,g1⟩
 exact⟨rfl,rfl,gH (gV (il w (some B)) _) g1⟩
theorem NY(B c1 c2:Nat)(fr ta a0 a1:Int)(a2:ByteArray)(L:List UInt8)(w:fV)(h:iL w B L)(l1:c1<w.heap.size)(l2:c2<w.heap.size)(h1:w.cell? (a_ c1 0)=some (Vb Vf fr))(h2:w.cell? (a_ c2 0)=some (Vb Vf ta))
  (hU:∀u,iL u B L->f_ Vh 78 #[p_ B,Vb Vf fr,Vb Vf ta] u fun ee w'=>ee=.returned (.agg (rU a0 a1 a2))/\u.grownBy w' (some B)):
  f_ Vh 77 #[p_ B,p_ c1,p_ c2] w fun ee w'=>ee=.returned (.agg (rU a0 a1 a2))/\w.grownBy w' (some B):=by
 have HU:=M0 (hU _ (h.alloc (.cells zU_ 69)))
 have n1:=(((R9 w.heap.size w).alloc (ai _) (.cells zU_ 69)).cell (p:=(a_ c1 0)) l1).trans h1
 have n2:=(((R9 w.heap.size w).alloc (ai _) (.cells zU_ 69)).cell (p:=(a_ c2 0)) l2).trans h2
 have hB:=h.lt
 have hne0:w.heap.size≠B:=by omega
 clear hU h
 go_enter func77,ntmps77
 go_wp2_with fail
 refine HU.mono ?_
 rintro ee w1 ⟨rfl,g1⟩
 have hr:w1.heap[w.heap.size]?=some (.cells zU_ 69 (0,0)):=(g1.block _ (by simp) (fun q=>hne0 (by simpa using q))).trans (G8 w _)
 have d0:w1.cell? (a_ w.heap.size 0)=some (Vb Ve 0):=gD hr rfl
 have d1:w1.cell? (a_ w.heap.size 1)=some (Vb Ve 0):=gD hr rfl
 have d2:w1.cell? (a_ w.heap.size 2)=some (.string ⟨#[]⟩):=gD hr rfl
 have kd:=gM hr
 have G1:=M0 (gH (gV (il w (some B)) _) g1)
 clear g1 hr HU
 go_wp2
 refine Vl (v:=.agg (rU a0 a1 a2)) (by simp[results,results77,go_sem,d0,d1,d2]) rfl ⟨rfl,?_⟩
 iterate 3 refine gN ?_ (ai _) _
 exact G1
end UI
namespace UI
open Bs Rd
open gP (gD gM gI jk iP iG jE)
theorem EM{w:fV}{g:Nat}{t:TypeId}(b0 b1 b2 v0 v1 v2:Value)(h:w.heap[g]?=some (.cells #[b0,b1,b2] t (0,0))):
  (((w.setCell (a_ g 0) v0).setCell (a_ g 1) v1).setCell (a_ g 2) v2).heap[g]?=some (.cells #[v0,v1,v2] t (0,0)):=by
 have q:=gI (gI (gI h 0 v0) 1 v1) 2 v2
 simpa only[ae,ah,af]using q
theorem jf(p:Addr)(x k:Int)(older:List PanicEntry)(w:fV)(hc:w.cell? p=some (Vb Vg x))(hz:w.frozen? p=false):
  CallsD Vh 129 #[.pointer (some p)] (.panicking ({v:=.iface 26 (Vb Vg k),recovered:=false}::older)) w fun e u' w'=>
   e=.returned (.tuple #[])/\u'=.panicking ({v:=.iface 26 (Vb Vg k),recovered:=true}::older)/\w'=w.setCell p (Vb Vg k):=by
 refine VE func129 rfl fun c₀ cs hu=> ?_
 apply VV
 apply VM
 simp[wpOpsS,go_sem,recoverD,hu,ntmps129,Exit.thenS]
 refine VP ?_
 change Code.wp _ _ _ {tmps:=#[.pointer (some p),.iface 26 (Vb Vg k),.iface 26 (Vb Vg k),undef,undef,undef,undef],defers:=[]} _
 have hta:=fun u=>jE k u
 go_wp2
 exact⟨rfl,_,rfl,.tuple #[],by simp[results,results129],rfl,rfl,rfl⟩
theorem kT(p:Addr)(w:fV):
  CallsD Vh 129 #[.pointer (some p)] .returning w fun e u' w'=>e=.returned (.tuple #[])/\u'=.returning/\w'=w:=by
 refine VE func129 rfl fun c₀ cs hu=> ?_
 apply VV
 apply VM
 simp[wpOpsS,go_sem,recoverD,hu,ntmps129,Exit.thenS]
 refine VP ?_
 change Code.wp _ _ _ {tmps:=#[.pointer (some p),.nilIface,.nilIface,undef,undef,undef,undef],defers:=[]} _
 go_wp2
 cases c₀
 simp_all[bodyPostS,results,results129]
theorem blocks{w w1 W:fV}{s:ByteArray}(g:W.grownBy w1 (some (w.heap.size+1+1)))(hW:W=((w.alloc (.cells zU_ 69)).alloc (.cells #[Vb Vg 0] 26)).alloc (.cells #[.string s] 166)):
  w1.heap[w.heap.size]?=some (.cells zU_ 69 (0,0))/\w1.heap[w.heap.size+1]?=some (.cells #[Vb Vg 0] 26 (0,0)):=by
 have z2:((w.alloc (.cells zU_ 69)).alloc (.cells #[Vb Vg 0] 26)).heap.size=w.heap.size+1+1:=by simp
 have z1:(w.alloc (.cells zU_ 69)).heap.size=w.heap.size+1:=by simp
 have e0:W.heap[w.heap.size]?=some (.cells zU_ 69 (0,0)):=by
  rw[hW,Vi _ _ _ (by omega),Vi _ _ _ (by omega)];exact G8 w _
 have e1:W.heap[w.heap.size+1]?=some (.cells #[Vb Vg 0] 26 (0,0)):=by
  rw[hW,Vi _ _ _ (by omega)]
  have q:=G8 (w.alloc (.cells zU_ 69)) (.cells #[Vb Vg 0] 26)
  rw[z1]at q
  exact q
 exact⟨(g.block _ (Vj e0) (fun q=>by simp at q;omega)).trans e0,(g.block _ (Vj e1) (fun q=>by simp at q)).trans e1⟩
theorem je(s:ByteArray)(c1 c2:Nat)(k:Int)(w:fV)
  (hR:∀u B,iL u B s.data.toList->(∀b o,b<w.heap.size->u.cell? (a_ b o)=w.cell? (a_ b o))->f_ Vh 77 #[p_ B,p_ c1,p_ c2] u fun ee w'=>ee=.panicked (iH k)/\u.grownBy w' (some B)):
  f_ Vh 76 #[.string s,.func (.func 77) #[] #[p_ c1,p_ c2]] w fun ee w'=>ee=.returned (.tuple #[.agg zU_,Vb Vg k])/\gm w.heap.size w w':=by
 have hmf:∀(fn:Fn) (first cap:Array Value) (w:fV),(Instr.makeFunc fn first cap).run Vh w=.ok (.func fn first cap) w:=fun _ _ _ _=>rfl
 have HR:=M0 hR
 clear hR
 go_enter_defers func76,ntmps76
 go_wp2_with fail
 refine(HR _ _ (iG _ _ s (by simp)) (fun b o hb=>((((R9 _ w).alloc (ai _) _).alloc (by simp) _).alloc (by simp;omega) _).cell (p:=(a_ b o)) hb)).mono ?_
 rintro ee w1 ⟨rfl,g1⟩
 obtain⟨hr,he⟩:=blocks g1 rfl
 have d0:w1.cell? (a_ w.heap.size 0)=some (Vb Ve 0):=gD hr rfl
 have d1:w1.cell? (a_ w.heap.size 1)=some (Vb Ve 0):=gD hr rfl
 have d2:w1.cell? (a_ w.heap.size 2)=some (.string ⟨#[]⟩):=gD hr rfl
 have hc:=Vm he
 have hf:=Vy he
 refine VF (f:=129) (args:=#[p_ (w.heap.size+1)]) (by simp) (by simp[go_sem]) ?_
 refine(jf (a_ (w.heap.size+1) 0) 0 k [] _ hc hf).mono ?_
 rintro e u' w'' ⟨rfl,rfl,rfl⟩
 simp[Leaves,settle,results,results76,go_sem,d0,d1,d2,hc]
 exact(jk g1 ((((R9 _ w).alloc (ai _) _).alloc (by simp) _).alloc (by simp;omega) _) (by omega)).setCell (by simp) _
theorem nK(s:ByteArray)(c1 c2:Nat)(a0 a1:Int)(a2:ByteArray)(w:fV)
  (hR:∀u B,iL u B s.data.toList->(∀b o,b<w.heap.size->u.cell? (a_ b o)=w.cell? (a_ b o))->f_ Vh 77 #[p_ B,p_ c1,p_ c2] u fun ee w'=>ee=.returned (.agg (rU a0 a1 a2))/\u.grownBy w' (some B)):
  f_ Vh 76 #[.string s,.func (.func 77) #[] #[p_ c1,p_ c2]] w fun ee w'=>ee=.returned (.tuple #[.agg (rU a0 a1 a2),Vb Vg 0])/\gm w.heap.size w w':=by
 have hmf:∀(fn:Fn) (first cap:Array Value) (w:fV),(Instr.makeFunc fn first cap).run Vh w=.ok (.func fn first cap) w:=fun _ _ _ _=>rfl
 have HR:=M0 hR
 clear hR
 go_enter_defers func76,ntmps76
 go_wp2_with fail
 refine(HR _ _ (iG _ _ s (by simp)) (fun b o hb=>((((R9 _ w).alloc (ai _) _).alloc (by simp) _).alloc (by simp;omega) _).cell (p:=(a_ b o)) hb)).mono ?_
 rintro ee w1 ⟨rfl,g1⟩
 obtain⟨hr,he⟩:=blocks g1 rfl
 have d0:w1.cell? (a_ w.heap.size 0)=some (Vb Ve 0):=gD hr rfl
 have d1:w1.cell? (a_ w.heap.size 1)=some (Vb Ve 0):=gD hr rfl
 have d2:w1.cell? (a_ w.heap.size 2)=some (.string ⟨#[]⟩):=gD hr rfl
 have fr:=gM hr
 have hc:=Vm he
 have hf:=Vy he
 have HB:=M0 (jk g1 ((((R9 _ w).alloc (ai _) _).alloc (by simp) _).alloc (by simp;omega) _) (by omega))
 obtain⟨U,hU⟩:∃U,U=((((w1.setCell (a_ w.heap.size 0) (Vb Ve a0)).setCell (a_ w.heap.size 1) (Vb Ve a1)).setCell (a_ w.heap.size 2) (.string a2)).setCell (a_ (w.heap.size+1) 0) (Vb Vg 0)):=⟨_,rfl⟩
 have hu:U.heap[w.heap.size]?=some (.cells (rU a0 a1 a2) 69 (0,0)):=by
  rw[hU,R8 _ _ _ _ (by simp)]
  exact EM _ _ _ _ _ _ hr
 have u0:U.cell? (a_ w.heap.size 0)=some (Vb Ve a0):=gD hu rfl
 have u1:U.cell? (a_ w.heap.size 1)=some (Vb Ve a1):=gD hu rfl
 have u2:U.cell? (a_ w.heap.size 2)=some (.string a2):=gD hu rfl
 have hv:U.heap[w.heap.size+1]?=some (.cells #[Vb Vg 0] 26 (0,0)):=by
  rw[hU]
  refine VR (v:=Vb Vg 0) ?_
  rw[R8 _ _ _ _ (by simp),R8 _ _ _ _ (by simp),R8 _ _ _ _ (by simp)]
  exact he
 have HBU:Hid (gm w.heap.size w U):=by
  show gm w.heap.size w U
  rw[hU]
  refine VT ?_ (by simp) _
  iterate 3 refine iP ?_
  exact HB
 have uv:=Vm hv
 have HU:=M0 hU
 clear g1 hr he hu hv hU
 go_wp2
 rw[<-gB HU]
 clear HU d0 d1 d2 hc hf fr
 refine VF (f:=129) (args:=#[p_ (w.heap.size+1)]) (by simp) (by simp[go_sem]) ?_
 refine(kT (a_ (w.heap.size+1) 0) _).mono ?_
 rintro e u' w'' ⟨rfl,rfl,rfl⟩
 simp[Leaves,settle,results,results76,go_sem,u0,u1,u2,uv]
 exact HBU
theorem iU(s:ByteArray)(a0 a1:Int)(a2:ByteArray)(k:Int)(fr ta:Int)(w:fV)
  (hR:∀u:fV,u.cell? (a_ w.heap.size 0)=some (Vb Vf fr)->u.cell? (a_ (w.heap.size+1) 0)=some (Vb Vf ta)->f_ Vh 76 #[.string s,.func (.func 77) #[] #[p_ w.heap.size,p_ (w.heap.size+1)]] u fun ee w'=>ee=.returned (.tuple #[.agg (rU a0 a1 a2),Vb Vg k])/\gm u.heap.size u w'):
  f_ Vh 43 (rO s fr ta) w fun ee w'=>ee=.returned (.tuple #[.agg (rU a0 a1 a2),Vb Vg k])/\gm w.heap.size w w':=by
 have hmf:∀(fn:Fn) (first cap:Array Value) (w:fV),(Instr.makeFunc fn first cap).run Vh w=.ok (.func fn first cap) w:=fun _ _ _ _=>rfl
 have HR:=M0 hR
 clear hR
 go_enter func43,ntmps43
 go_wp2_with fail
 refine(HR (((w.alloc (.cells #[Vb Vf fr] 36)).alloc (.cells #[Vb Vf ta] 36)).alloc (.cells zU_ 69)) (by simp[go_sem]) (by simp[go_sem])).mono ?_
 rintro ee w1 ⟨rfl,hb⟩
 have hr:w1.heap[w.heap.size+2]?=some (.cells zU_ 69 (0,0)):=(hb.block _ (by simp)).trans ((by simpa using G8 ((w.alloc (.cells #[Vb Vf fr] 36)).alloc (.cells #[Vb Vf ta] 36)) (.cells zU_ 69)))
 have d0:w1.cell? (a_ (w.heap.size+2) 0)=some (Vb Ve 0):=gD hr rfl
 have d1:w1.cell? (a_ (w.heap.size+2) 1)=some (Vb Ve 0):=gD hr rfl
 have d2:w1.cell? (a_ (w.heap.size+2) 2)=some (.string ⟨#[]⟩):=gD hr rfl
 have fr:=gM hr
 have HB:Hid (gm w.heap.size w w1):=M0 (((((R9 _ w).alloc (ai _) _).alloc (by simp) _).alloc (by simp;omega) _).trans (hb.mono (by simp<;>omega)))
 obtain⟨U,hU⟩:∃U,U=(((w1.setCell (a_ (w.heap.size+2) 0) (Vb Ve a0)).setCell (a_ (w.heap.size+2) 1) (Vb Ve a1)).setCell (a_ (w.heap.size+2) 2) (.string a2)):=⟨_,rfl⟩
 have hu:U.heap[w.heap.size+2]?=some (.cells (rU a0 a1 a2) 69 (0,0)):=by
  rw[hU]
  exact EM _ _ _ _ _ _ hr
 have u0:U.cell? (a_ (w.heap.size+2) 0)=some (Vb Ve a0):=gD hu rfl
 have u1:U.cell? (a_ (w.heap.size+2) 1)=some (Vb Ve a1):=gD hu rfl
 have u2:U.cell? (a_ (w.heap.size+2) 2)=some (.string a2):=gD hu rfl
 have HBU:Hid (gm w.heap.size w U):=by
  show gm w.heap.size w U
  rw[hU]
  iterate 3 refine VT ?_ (by simp) _
  exact HB
 have HU:=M0 hU
 clear hr hu hU hb HR
 go_wp2
 rw[<-gB HU]
 clear HU d0 d1 d2 fr
 exact Vl (v:=.tuple #[.agg (rU a0 a1 a2),Vb Vg k]) (by simp[results,results43,go_sem,u0,u1,u2]) rfl ⟨rfl,HBU⟩
theorem Xu(s:ByteArray)(a0 a1:Int)(a2:ByteArray)(k:Int)(fr ta:Int)(w:fV)
  (hR:∀u:fV,f_ Vh 43 (rO s fr ta) u fun ee w'=>ee=.returned (.tuple #[.agg (rU a0 a1 a2),Vb Vg k])/\gm u.heap.size u w'):
  f_ Vh 24 (rO s fr ta) w fun ee w'=>ee=.returned (.tuple #[.agg (rU a0 a1 a2),Vb Vg k])/\gm w.heap.size w w':=by
 have HR:=M0 hR
 clear hR
 go_enter func24,ntmps24
 go_wp2_with fail
 refine(HR _).mono ?_
 rintro ee w1 ⟨rfl,hb⟩
 have hr:w1.heap[w.heap.size]?=some (.cells zU_ 69 (0,0)):=(hb.block _ (by simp)).trans (G8 w _)
 have d0:w1.cell? (a_ w.heap.size 0)=some (Vb Ve 0):=gD hr rfl
 have d1:w1.cell? (a_ w.heap.size 1)=some (Vb Ve 0):=gD hr rfl
 have d2:w1.cell? (a_ w.heap.size 2)=some (.string ⟨#[]⟩):=gD hr rfl
 have fr:=gM hr
 have HB:Hid (gm w.heap.size w w1):=M0 (((R9 _ w).alloc (ai _) _).trans (hb.mono (by simp)))
 obtain⟨U,hU⟩:∃U,U=(((w1.setCell (a_ w.heap.size 0) (Vb Ve a0)).setCell (a_ w.heap.size 1) (Vb Ve a1)).setCell (a_ w.heap.size 2) (.string a2)):=⟨_,rfl⟩
 have hu:U.heap[w.heap.size]?=some (.cells (rU a0 a1 a2) 69 (0,0)):=by
  rw[hU]
  exact EM _ _ _ _ _ _ hr
 have u0:U.cell? (a_ w.heap.size 0)=some (Vb Ve a0):=gD hu rfl
 have u1:U.cell? (a_ w.heap.size 1)=some (Vb Ve a1):=gD hu rfl
 have u2:U.cell? (a_ w.heap.size 2)=some (.string a2):=gD hu rfl
 have HBU:Hid (gm w.heap.size w U):=by
  show gm w.heap.size w U
  rw[hU]
  iterate 3 refine iP ?_
  exact HB
 have HU:=M0 hU
 clear hr hu hU hb HR
 go_wp2
 rw[<-gB HU]
 clear HU d0 d1 d2 fr
 exact Vl (v:=.tuple #[.agg (rU a0 a1 a2),Vb Vg k]) (by simp[results,results24,go_sem,u0,u1,u2]) rfl ⟨rfl,HBU⟩
end UI
namespace Uv
open Bs Rd Lt Ut
open Ip (lS uX)
open Ud (kR)
open Go.Proofs.YtdgacidndknceaaGreatDoor.UI
theorem iD{w:fV}{b o:Nat}{v:Value}(h:w.cell? (a_ b o)=some v):b<w.heap.size:=by
 by_cases hlt:b<w.heap.size
 ·exact hlt
 ·have hn:w.heap[b]?=none:=by simp;omega
  simp[World.cell?,hn]at h
theorem zX(s:ByteArray)(L:List UInt8)(hL:s.data.toList=L)(fr ta:Int)(w:fV)(hm:s.size<=262144)(hf:0<=fr/\fr<=4294967295)(ho:0<=ta/\ta<=4294967295):
  f_ Vh 43 (rO s fr ta) w fun ee w'=>ee=.returned (.tuple #[.agg (rU (Lr L fr ta (w2 L 0)) (Lr L fr ta (w2 L 2)) (Ae L fr ta)),Vb Vg (BD L fr ta)])/\gm w.heap.size w w':=by
 have hl:=jc s
 rw[hL]at hl
 have E:∀k,BD L fr ta=k->k≠0->(∀u:fV,f_ Vh 43 (rO s fr ta) u fun ee w'=>ee=.returned (.tuple #[.agg zU_,Vb Vg k])/\gm u.heap.size u w')->
   f_ Vh 43 (rO s fr ta) w fun ee w'=>ee=.returned (.tuple #[.agg (rU (Lr L fr ta (w2 L 0)) (Lr L fr ta (w2 L 2)) (Ae L fr ta)),Vb Vg (BD L fr ta)])/\gm w.heap.size w w':=by
  intro k h0 h1 h2
  rw[zi h0 h1,zi h0 h1,Ef h0 h1,h0]
  exact h2 w
 by_cases hn:L.length<8
 ·exact E 1 (by unfold BD;rw[ay hn]) (by decide) (fun u=>iU s 0 0 ⟨#[]⟩ 1 fr ta u (fun v c1 c2=>je s _ _ 1 v (fun x B h hc=>Dl B _ _ fr ta 1 L x (by rw[hL]at h;exact h) (iD ((hc _ _ (iD c1)).trans c1)) (iD ((hc _ _ (iD c2)).trans c2)) ((hc _ _ (iD c1)).trans c1) ((hc _ _ (iD c2)).trans c2) (fun y hy=>by exact xK B L fr ta y hy hn))))
 ·obtain⟨a0,a1,a2,a3,a4,a5,a6,a7,r,hlist⟩:=eight L (by omega)
  have heta:=mQ s
  rw[hL]at heta
  have p4:=a4.toNat_lt
  have p5:=a5.toNat_lt
  have b4:w2 L 4=(256*(a4.toNat:Int)+(a5.toNat:Int)):=by rw[hlist];rfl
  have b6:w2 L 6=(256*(a6.toNat:Int)+(a7.toNat:Int)):=by rw[hlist];rfl
  have dr:L.drop 8=r:=by rw[hlist];rfl
  have ln:L.length=r.length+8:=by rw[hlist];simp
  have hml:(a0::a1::a2::a3::a4::a5::a6::a7::r).length<=maxLen:=by rw[<-hlist];unfold maxLen;omega
  have hK:BD L fr ta=if w2 L 4<8 then 2 else if((L.length:Nat):Int)<w2 L 4 then 1
    else if w2 L 6≠0/\lS (kR fr ta (w2 L 4)++L.take (w2 L 4).toNat)≠0 then 6 else 0:=by unfold BD;rw[ax hn]
  rw[b4,b6,ln]at hK
  by_cases h4:(256*(a4.toNat:Int)+(a5.toNat:Int))<8
  ·rw[ay h4]at hK
   exact E 2 hK (by decide) (fun u=>iU s 0 0 ⟨#[]⟩ 2 fr ta u (fun v c1 c2=>je s _ _ 2 v (fun x B h hc=>Dl B _ _ fr ta 2 L x (by rw[hL]at h;exact h) (iD ((hc _ _ (iD c1)).trans c1)) (iD ((hc _ _ (iD c2)).trans c2)) ((hc _ _ (iD c1)).trans c1) ((hc _ _ (iD c2)).trans c2) (fun y hy=>by rw[hlist]at hy;exact A7 B a0 a1 a2 a3 a4 a5 a6 a7 r fr ta y hy hml 2 (fun z hz=>yn B _ _ _ _ _ z hz (by simp only[aj]at hml ⊢;unfold maxLen at hml ⊢;omega) (by omega))))))
  ·rw[ax h4]at hK
   by_cases h5:((r.length+8:Nat):Int)<(256*(a4.toNat:Int)+(a5.toNat:Int))
   ·rw[ay h5]at hK
    exact E 1 hK (by decide) (fun u=>iU s 0 0 ⟨#[]⟩ 1 fr ta u (fun v c1 c2=>je s _ _ 1 v (fun x B h hc=>Dl B _ _ fr ta 1 L x (by rw[hL]at h;exact h) (iD ((hc _ _ (iD c1)).trans c1)) (iD ((hc _ _ (iD c2)).trans c2)) ((hc _ _ (iD c1)).trans c1) ((hc _ _ (iD c2)).trans c2) (fun y hy=>by rw[hlist]at hy;exact A7 B a0 a1 a2 a3 a4 a5 a6 a7 r fr ta y hy hml 1 (fun z hz=>wo B _ _ _ _ _ z hz (by simp only[aj]at hml ⊢;unfold maxLen at hml ⊢;omega) (by omega) (by omega))))))
   ·rw[ax h5]at hK
    obtain⟨k,hk⟩:∃k:Nat,(256*(a4.toNat:Int)+(a5.toNat:Int))=8+(k:Int):=⟨((256*(a4.toNat:Int)+(a5.toNat:Int))-8).toNat,by omega⟩
    obtain⟨m,hmk⟩:∃m:Nat,m=8+k:=⟨_,rfl⟩
    have hnm:(256*(a4.toNat:Int)+(a5.toNat:Int))=(m:Int):=by omega
    have hkr:k<=r.length:=by omega
    have hm6:m<=65535:=by omega
    rw[hnm,Int.toNat_natCast]at hK
    have e5:BD L fr ta=0->Ae L fr ta=⟨(r.take k).toArray⟩:=fun h=>by rw[JD h,dr,b4,hnm,Int.toNat_natCast,hmk];congr 3;omega
    have b0:w2 L 0=(256*(a0.toNat:Int)+(a1.toNat:Int)):=by rw[hlist];rfl
    have b2:w2 L 2=(256*(a2.toNat:Int)+(a3.toNat:Int)):=by rw[hlist];rfl
    by_cases h6:(256*(a6.toNat:Int)+(a7.toNat:Int))=0
    ·rw[ax (fun q=>q.1 h6)]at hK
     rw[sS hK,sS hK,e5 hK,hK,b0,b2]
     refine iU s _ _ _ 0 fr ta w (fun v c1 c2=>nK s _ _ _ _ _ v (fun x B h hc=>NY B _ _ fr ta _ _ _ L x (by rw[hL]at h;exact h) (iD ((hc _ _ (iD c1)).trans c1)) (iD ((hc _ _ (iD c2)).trans c2)) ((hc _ _ (iD c1)).trans c1) ((hc _ _ (iD c2)).trans c2) (fun y hy=> ?_)))
     rw[hlist]at hy
     exact Dy B a0 a1 a2 a3 a4 a5 a6 a7 r fr ta y hy hml hf ho m k hmk hnm hkr hm6 (by omega) h6
    ·by_cases h7:lS (kR fr ta (m:Int)++(a0::a1::a2::a3::a4::a5::a6::a7::r).take m)=0
     ·rw[ax (fun q=>q.2 (by rw[hlist];exact h7))]at hK
      rw[sS hK,sS hK,e5 hK,hK,b0,b2]
      refine iU s _ _ _ 0 fr ta w (fun v c1 c2=>nK s _ _ _ _ _ v (fun x B h hc=>NY B _ _ fr ta _ _ _ L x (by rw[hL]at h;exact h) (iD ((hc _ _ (iD c1)).trans c1)) (iD ((hc _ _ (iD c2)).trans c2)) ((hc _ _ (iD c1)).trans c1) ((hc _ _ (iD c2)).trans c2) (fun y hy=> ?_)))
      rw[hlist]at hy
      exact Dr B a0 a1 a2 a3 a4 a5 a6 a7 r fr ta y hy hml hf ho m k hmk hnm hkr hm6 (by omega) h7
     ·rw[ay ⟨h6,by rw[hlist];exact h7⟩]at hK
      exact E 6 hK (by decide) (fun u=>iU s 0 0 ⟨#[]⟩ 6 fr ta u (fun v c1 c2=>je s _ _ 6 v (fun x B h hc=>Dl B _ _ fr ta 6 L x (by rw[hL]at h;exact h) (iD ((hc _ _ (iD c1)).trans c1)) (iD ((hc _ _ (iD c2)).trans c2)) ((hc _ _ (iD c1)).trans c1) ((hc _ _ (iD c2)).trans c2) (fun y hy=>by rw[hlist]at hy;exact Dj B a0 a1 a2 a3 a4 a5 a6 a7 r fr ta y hy hml hf ho m k hmk hnm hkr hm6 (by omega) h6 h7))))
end Uv
namespace Dh
open Bs
open Rd (iL iH)
theorem jN(p:Pc)(r:List Pc):heavy (p::r)=1+p.2.length+heavy r:=by
 simp only[heavy,aj,bH,dW];omega
theorem mM(a b:List Pc):heavy (a++b)=heavy a+heavy b:=by
 simp only[heavy,bP,dU,ak];omega
theorem iQ(n:Nat):∀(l:List UInt8) (ps:List Pc),l.length<=n->pieces l=some ps->heavy ps<=l.length:=by
 induction n with
 |zero=>
  intro l ps hl h
  match l,hl with
  |[],_=>rw[qX]at h;cases h
 |succ n ih=>
  intro l ps hl h
  match l,hl with
  |[],_=>rw[qX]at h;cases h
  |c::r,hl=>
   by_cases e1:c.toNat=255
   ·rw[uS c r e1]at h
    cases h
    simp[heavy]
   ·by_cases e0:c.toNat=0
    ·rw[sW c r e0]at h
     have:=ih r ps (by simp at hl;omega) h
     simp only[aj];omega
    ·match r,hl with
     |[],_=>rw[tV c e1 e0]at h;cases h
     |m::q,hl=>
      by_cases hq:q.length<m.toNat
      ·rw[vB c m q e1 e0 hq]at h;cases h
      ·have h':=(sD c m q e1 e0 hq).symm.trans h
       cases hp:pieces (q.drop m.toNat)with
       |none=>rw[hp]at h';cases h'
       |some ps'=>
        rw[hp]at h'
        obtain rfl:=aU h'
        have:=ih (q.drop m.toNat) ps' (by simp at hl ⊢;omega) hp
        rw[aW]at this
        rw[jN]
        simp only[aj,aT]
        omega
theorem IJ(ps:List Pc)(c:UInt8):heavy (drop ps c)<=heavy ps:=by
 induction ps with
 |nil=>exact ai _
 |cons p r ih=>
  simp only[drop,bA]at ih ⊢
  split
  ·rw[jN,jN];omega
  ·rw[jN];omega
def jm:List ByteArray->Option (List Pc)
 |[]=>some []
 |a::r=>(pieces a.data.toList).bind fun p=>(jm r).map fun q=>p++q
def strsOf(ps:List Pc)(host file:ByteArray):List ByteArray:=if has ps 52 then pE (data ps 52) host file else []
theorem OJ(ps:List Pc)(host file:ByteArray):(strsOf ps host file).length<=2:=by
 unfold strsOf pE
 split
 ·rw[ak];split<;>split<;>simp
 ·simp
theorem Oi(ps:List Pc)(host file:ByteArray)(n:Nat)(hh:host.size<=n)(hf:file.size<=n):∀s ∈ strsOf ps host file,s.size<=n:=fun s hs=>by
 unfold strsOf pE at hs
 split at hs
 ·rw[List.mem_append]at hs
  rcases hs with hs|hs
  ·split at hs
   ·simp at hs;subst hs;exact hf
   ·simp at hs
  ·split at hs
   ·simp at hs;subst hs;exact hh
   ·simp at hs
 ·simp at hs
theorem B_(d:List UInt8)(host file:ByteArray):jZ (m_ d) (yX d) file.data.toList host.data.toList=jm (pE d host file):=by
 unfold jZ pE
 cases hF:m_ d<;>cases hH:yX d
 ·rfl
 ·simp only[jm,bN,fD,fE,bY]
  cases pieces host.data.toList<;>simp
 ·simp only[jm,bN,fD,fE,bn]
  cases pieces file.data.toList<;>simp
 ·simp only[jm,fE,kD,bY]
  cases pieces file.data.toList<;>cases pieces host.data.toList<;>simp
theorem xe(l:List UInt8)(host file:ByteArray)(h:pieces l=none):nE l host.data.toList file.data.toList=1:=by rw[nE,h]
theorem zT(l:List UInt8)(host file:ByteArray)(ps:List Pc)(h:pieces l=some ps)(h1:has ps 52=true)(h2:kM (data ps 52)=false):nE l host.data.toList file.data.toList=2:=by
 rw[nE,h];simp[h1,h2]
theorem Ke(l:List UInt8)(host file:ByteArray)(ps:List Pc)(h:pieces l=some ps)(h1:has ps 52=true->kM (data ps 52)=true):
  nE l host.data.toList file.data.toList=(match jm (strsOf ps host file)with|none=>1|some m=>if has m 52 then 2 else 0):=by
 rw[nE,h]
 unfold strsOf
 cases hh:has ps 52
 ·simp only[hh,bN,fD,jm]
  rfl
 ·have h2:=h1 hh
  simp only[hh,fE,h2,B_]
  cases jm (pE (data ps 52) host file)<;>rfl
theorem KJ(l:List UInt8)(host file:ByteArray)(ps m:List Pc)(h:pieces l=some ps)(hm:jm (strsOf ps host file)=some m):
  oW l host.data.toList file.data.toList=gW [] (drop ps 52++m):=by
 rw[oW,h]
 unfold strsOf at hm
 cases hh:has ps 52
 ·rw[hh]at hm
  simp[jm]at hm
  subst hm
  simp only[hh,bN,fD,bn,Ow ps 52 hh]
 ·rw[hh]at hm
  simp only[fE]at hm
  simp only[hh,fE]
  rw[B_,hm]
theorem DR(aa:List ByteArray)(k:Nat)(h:k<aa.length)(ms qs:List Pc)(h0:jm aa=(jm (aa.drop k)).map fun x=>ms++x)(hp:pieces aa[k].data.toList=some qs):
  jm aa=(jm (aa.drop (k+1))).map fun x=>(ms++qs)++x:=by
 refine h0.trans ?_
 rw[aV h,jm,hp]
 cases jm (aa.drop (k+1))with
 |none=>rfl
 |some x=>simp
theorem IK(aa:List ByteArray)(k:Nat)(h:k<aa.length)(ms:List Pc)(h0:jm aa=(jm (aa.drop k)).map fun x=>ms++x)(hp:pieces aa[k].data.toList=none):jm aa=none:=by
 refine h0.trans ?_
 rw[aV h,jm,hp]
 rfl
def SA(w:fV)(a:Option Addr)(ss:List ByteArray):Prop:=∀i (h:i<ss.length),∃ad,a=some ad/\w.cell? (ad.add i)=some (.string ss[i])
theorem SA.below{w w':fV}{a:Option Addr}{ss:List ByteArray}{n:Nat}(h:SA w a ss)(hb:gm n w w')(hn:w.heap.size<=n):SA w' a ss:=fun i hi=>by
 obtain⟨ad,e,h0⟩:=h i hi
 have l0:=CP h0
 exact⟨ad,e,by rw[hb.cell (by omega)];exact h0⟩
theorem SA.own{w:fV}{b:Nat}{ao:Option Addr}{cp:Nat}{ss:List ByteArray}(h:w.ownsRow b 9 1 (.slice ao ss.length cp) ss.length (ss.map Value.string)):SA w ao ss:=fun i hi=>by
 obtain⟨g,rfl,_⟩:=jv h (by omega)
 exact⟨(a_ g 0),rfl,h.cells (g:=g) rfl i _ (by simp[hi])⟩
theorem At.own{w:fV}{b:Nat}{ao:Option Addr}{cp:Nat}{os:gU}(h:w.ownsRow b 138 2 (.slice ao os.length cp) os.length (gT os)):At w ao os:=by
 by_cases hn:0<os.length
 ·obtain⟨g,rfl,_⟩:=jv h hn
  exact At.Jr (h.cells (g:=g) rfl)
 ·exact fun i hi=>by omega
theorem xI{w:fV}{b e z:Nat}{v:Value}{n:Nat}{xs:List Value}(h:w.ownsRow b e z v n xs):(v=.slice none 0 0/\n=0)∨∃g cp,v=.slice (some (a_ g 0)) n cp:=by
 rcases h.2 with h0|⟨g,cap,cur,rfl,_⟩
 ·exact au h0
 ·exact aA ⟨g,cap,rfl⟩
end Dh
namespace Dh
open Bs
open Rd (iL iH jh gH jD iR)
theorem own_below{w w':fV}{b e z:Nat}{v:Value}{n:Nat}{xs:List Value}(h:w.ownsRow b e z v n xs)(hb:gm w.heap.size w w'):w'.ownsRow b e z v n xs:=
 h.kept (w':=w') (row:=none) ⟨hb.os,hb.tape,hb.output,hb.size,fun i hi _=>hb.block i hi⟩ (by cases h:v.ownBlock<;>simp)
def Jb(l:List UInt8)(host file:ByteArray)(B:Nat)(w:fV)(e:Ending)(w':fV):Prop:=
 w.grownBy w' (some B)/\(if nE l host.data.toList file.data.toList=0 then ∃v,e=.returned v/\w'.ownsRow w.heap.size 138 2 v (oW l host.data.toList file.data.toList).length (gT (oW l host.data.toList file.data.toList))else e=.panicked (iH (nE l host.data.toList file.data.toList)))
theorem uu{l:List UInt8}{host file:ByteArray}{B:Nat}{w w':fV}(k:Nat)(hk:nE l host.data.toList file.data.toList=k)(h0:k≠0)(hg:w.grownBy w' (some B)):Jb l host file B w (.panicked (iH k)) w':=by
 refine⟨hg,?_⟩
 rw[hk,ax h0]
theorem PR(B:Nat)(l:List UInt8)(host file:ByteArray)(w:fV)(h:iL w B l)(hl:l.length<=1048576)(hh:host.size<=1048576)(hf:file.size<=1048576):
  f_ Vh 194 #[p_ B,.string host,.string file] w fun e w'=>Jb l host file B w e w':=by
 obtain⟨i1,hj,hy0,hy1,hy2⟩:=Vx lM
 have HR:=M0 h
 have hB:=h.lt
 clear h
 go_enter func194,ntmps194
 go_wp2_with fail
 refine(Fa B l _ HR (by omega)).mono ?_
 rintro e w1 ⟨hg1,hpost⟩
 cases hp:pieces l with
 |none=>
  rw[hp]at hpost
  simp only at hpost
  subst hpost
  exact⟨rfl,uu 1 (xe l host file hp) (by omega) hg1⟩
 |some ps=>
  rw[hp]at hpost
  obtain⟨v1,rfl,hown1⟩:=hpost
  obtain⟨ao1,cp1,rfl⟩:=ib hown1
  have hps:=iQ l.length l ps (ai _) hp
  have HA1:=M0 (At.own hown1)
  have HG1:=M0 hg1
  have hz1:=hg1.size
  have HP:=M0 hp
  have HAR:=M0 (Ki ao1 cp1 ps host file w1 HA1 (by omega))
  clear hg1 hp hown1
  go_wp2_with fail
  refine HAR.mono ?_
  rintro e w2 ⟨hb2,harea⟩
  have HB2:=M0 hb2
  have hz2:=hb2.size
  by_cases hbad:has ps 52=true/\kM (data ps 52)=false
  ·rw[ay hbad.1,ax (by rw[hbad.2];decide)]at harea
   subst harea
   exact⟨rfl,uu 2 (zT l host file ps HP hbad.1 hbad.2) (by omega) (jh HG1 hb2)⟩
  ·have hok:has ps 52=true->kM (data ps 52)=true:=fun h1=>by
    by_cases h2:kM (data ps 52)=true
    ·exact h2
    ·exact absurd ⟨h1,by simpa using h2⟩ hbad
   have hcom:∃a2 c2,e=.returned (.slice a2 (strsOf ps host file).length c2)/\SA w2 a2 (strsOf ps host file):=by
    unfold strsOf
    by_cases h1:has ps 52=true
    ·rw[ay h1,ay (hok h1)]at harea
     obtain⟨v,rfl,hv⟩:=harea
     obtain⟨a2,c2,rfl⟩:=ib hv
     rw[ay h1]
     exact⟨a2,c2,rfl,SA.own hv⟩
    ·rw[ax h1]at harea
     rw[ax h1]
     exact⟨none,0,harea,fun i hi=>by simp at hi⟩
   obtain⟨a2,c2,rfl,hsa⟩:=hcom
   have hsl:=OJ ps host file
   have HSM:=M0 (Oi ps host file 1048576 hh hf)
   have HK:=M0 (Ke l host file ps HP hok)
   have HLL:=M0 (fun m=>KJ l host file ps m HP)
   obtain⟨ss,hss⟩:∃ss,ss=strsOf ps host file:=⟨_,rfl⟩
   rw[<-hss]at hsa hsl HSM HK HLL ⊢
   have HSA:=M0 hsa
   clear harea hb2 hbad hok hsa hss HAR
   go_wp2
   go_loopw [8,21] (fun v8 i wr=>∃(k:Nat) (ms:List Pc),k<=ss.length/\i=Vb Vg k/\heavy ms<=1048576*k/\Hid (jm ss=(jm (ss.drop k)).map fun x=>ms++x)/\Hid (wr.ownsRow w2.heap.size 138 2 v8 ms.length (gT ms))/\Hid (gm w2.heap.size w2 wr)) (fun _ i _=>ss.length-(intOf i).toNat)
   case atStart=>exact⟨0,[],aN _,rfl,by simp[heavy],M0 (by simp),M0 (Vp _ _ _ _),M0 (R9 _ _)⟩
   case round=>
    obtain⟨k,ms,hk,rfl,hmh,HM,HO,HW⟩:=hrel
    rename fV=>wr
    have hmsl:ms.length<=heavy ms:=by unfold heavy;omega
    have hwz:=HW.size
    by_cases hlt:k<ss.length
    ·obtain⟨ad,rfl,c0⟩:=HSA.below HW (ai _) k hlt
     have hsz:=HSM _ (bz hlt)
     obtain⟨s,hs⟩:∃s,s=ss[k]:=⟨_,rfl⟩
     rw[<-hs]at c0 hsz
     have HMS:=M0 (DR ss k hlt ms)
     have HMN:=M0 (IK ss k hlt ms HM)
     rw[<-hs]at HMS HMN
     have hRd:iL (wr.alloc (.cells #[.string s] 166)) wr.heap.size s.data.toList:=by
      have q:=G8 wr (.cells #[.string s] 166)
      unfold iL
      rw[Rd.mQ]
      exact q
     have HOP:=M0 (Fa wr.heap.size s.data.toList _ hRd (by rw[aF];show s.size<=_;omega))
     have hhq:s.data.toList.length<=1048576:=by rw[aF];exact hsz
     clear hRd hs
     go_wp2_with fail
     refine HOP.mono ?_
     rintro e w3 ⟨hg3,hpost⟩
     have hB3:gm w2.heap.size w2 w3:=(HW.alloc hwz _).grown hg3 (by simp;omega) (fun x hx=>by cases hx;omega)
     have hO3:=(HO.alloc (.cells #[.string s] 166)).kept hg3 (not_row (fun g hg e=>by cases e;have:=(HO.lt _ hg).2;omega))
     cases hp:pieces s.data.toList with
     |none=>
      rw[hp]at hpost
      simp only at hpost
      subst hpost
      refine⟨rfl,uu 1 ?_ (by omega) (jh (jh HG1 HB2) hB3)⟩
      rw[gB HK,HMN hp]
     |some qs=>
      rw[hp]at hpost
      obtain⟨v3,rfl,hown3⟩:=hpost
      have hqh:=iQ _ s.data.toList qs (ai _) hp
      have hqs:qs.length<=heavy qs:=by unfold heavy;omega
      have HST:=M0 (HMS qs HM hp)
      have O3:=M0 hO3
      have B3:=M0 hB3
      have Q3:=M0 hown3
      have hz3:=hB3.size
      clear hg3 hO3 hB3 HM HMS HMN hp HOP
      rcases xI hown3 with⟨rfl,hq0⟩|⟨g3,cp3,rfl⟩
      ·have hqn:qs=[]:=bD hq0
       subst hqn
       clear hown3
       go_wp2_with (at_builtin;refine wpList_append_own_none rfl (.tmp 27) (.tmp 28) 200 rfl w2.heap.size 138 i1 2 eX hj _ _ _ rfl O3 rfl ?_)
       obtain⟨a8,c8,hv8⟩:=ib O3
       subst hv8
       go_wp2
       go_roundw
       case rel=>exact⟨k+1,ms,by omega,by go_num,by omega,M0 (by have q:=gB HST;rwa [bn]at q),O3,B3⟩
       case measure=>simp[intOf];omega
      ·have hcs:=hown3.cells (g:=g3) rfl
       have HCS:=M0 hcs
       have HLN:=M0 (kr qs)
       have hO3z:=(gB O3)
       clear hown3 hcs hO3z
       go_wp2_with (at_builtin;refine Vv _ rfl (.tmp 27) (.tmp 28) 200 rfl w2.heap.size 138 i1 (.agg #[Vb Vd 0,.string ⟨#[]⟩]) 2 24 eX hj hy0 hy1 hy2 rfl (by decide) _ _ _ rfl O3 (a_ g3 0) qs.length cp3 (gT qs) rfl HLN HCS (jM _) ?h63 ?hby ?hba ?_)
       case h63=>simp only[maxLen];omega
       case hby=>omega
       case hba=>omega
       ·intro v' w4 hown4 hg4 _
        have hB4:gm w2.heap.size w2 w4:=B3.grown hg4 hz3 (fun x hx=>(O3.lt x hx).1)
        have hO4:w4.ownsRow w2.heap.size 138 2 v' (ms++qs).length (gT (ms++qs)):=by rw[ak,iV];exact hown4
        obtain⟨a8,c8,hv8⟩:=ib hown4
        have O4:=M0 hO4
        have B4:=M0 hB4
        clear hown4 hg4 hB4 hO4
        subst hv8
        go_wp2
        go_roundw
        case rel=>exact⟨k+1,ms++qs,by omega,by go_num,by rw[mM];omega,HST,O4,B4⟩
        case measure=>simp[intOf];omega
    ·have e0:k=ss.length:=by omega
     subst e0
     have hMA:jm ss=some ms:=by
      refine HM.trans ?_
      rw[G9,jm]
      simp
     have HKK:=M0 (show nE l host.data.toList file.data.toList=if has ms 52 then 2 else 0 by rw[gB HK,hMA])
     have HOL:=M0 (HLL ms hMA)
     obtain⟨a8,c8,hv8⟩:=ib HO
     subst hv8
     have hmh2:heavy ms<=2097152:=by omega
     have HD:=M0 (Jy a8 c8 ms wr (At.own HO) (by omega))
     clear HM hMA HK HLL HSM HSA hmh
     go_wp2_with fail
     refine HD.mono ?_
     rintro e w5 ⟨rfl,hb5⟩
     have hB5:gm w2.heap.size w2 w5:=HW.trans (hb5.mono hwz)
     have hO5:=own_below HO hb5
     have B5:=M0 hB5
     have O5:=M0 hO5
     have hz5:=hB5.size
     clear hb5 hB5 hO5 HD HO
     by_cases hag:has ms 52=true
     ·rw[hag]
      go_wp2_with fail
      refine(iR _ (by simp) _ _).mono ?_
      rintro e w6 ⟨rfl,rfl⟩
      refine⟨rfl,uu 2 ?_ (by omega) (jh (jh HG1 HB2) B5)⟩
      rw[gB HKK,ay hag]
     ·have hag':has ms 52=false:=by simpa using hag
      have HK0:Hid (nE l host.data.toList file.data.toList=0):=M0 (by rw[gB HKK,ax hag])
      rw[hag']
      clear hag HKK
      go_wp2_with fail
      refine(jD _ (by simp) _ _).mono ?_
      rintro e w6 ⟨rfl,rfl⟩
      have HWO:=M0 (GA ao1 cp1 ps w6 ((HA1.below HB2 (ai _)).below B5 (ai _)) (by omega))
      go_wp2_with fail
      refine HWO.mono ?_
      rintro e w7 ⟨v7,rfl,hown7,hb7⟩
      have hdh:=IJ ps 52
      have hdl:(drop ps 52).length<=heavy (drop ps 52):=by unfold heavy;omega
      have hB7:gm w2.heap.size w2 w7:=B5.trans (hb7.mono hz5)
      have hO7:=own_below O5 hb7
      have hz7:=hb7.size
      have O7:=M0 hown7
      have Q7:=M0 hO7
      have B7:=M0 hB7
      clear hown7 hb7 hO7 hB7 HWO O5 B5
      rcases xI Q7 with⟨hnil,hq0⟩|⟨g8,cp8,hsl8⟩
      ·have hmn:ms=[]:=bD hq0
       subst hmn
       cases hnil
       go_wp2_with (at_builtin;refine wpList_append_own_none rfl (.tmp 40) (.tmp 41) 200 rfl w6.heap.size 138 i1 2 eX hj _ _ _ rfl O7 rfl ?_)
       have hO8:w7.ownsRow w6.heap.size 138 2 v7 (drop ps 52++ []).length (gT (drop ps 52++ [])):=by rw[bn];exact O7
       obtain⟨X,hX⟩:∃X,X=drop ps 52++ []:=⟨_,rfl⟩
       have hXh:heavy X<=3145728:=by rw[hX,mM];simp only[heavy,aP,dE,List.sum_nil]at hdh hps ⊢;omega
       rw[<-hX]at hO8 HOL
       clear hX
       obtain⟨a10,c10,hv10⟩:=ib hO8
       subst hv10
       have HJN:=M0 (zq a10 c10 X w7 (At.own hO8) (by omega))
       go_wp2_with fail
       refine HJN.mono ?_
       rintro e w9 ⟨v9,rfl,hown9,hb9⟩
       obtain⟨a11,c11,hv11⟩:=ib hown9
       subst hv11
       have O9:=M0 hown9
       have B9:=M0 (B7.trans (hb9.mono (by omega)))
       have hz9:w.heap.size<=w7.heap.size:=by omega
       clear hown9 hb9
       go_wp2
       go_ret
       refine⟨jh (jh HG1 HB2) B9,?_⟩
       rw[gB HK0,ay rfl,gB HOL]
       exact⟨_,rfl,nT O9 hz9⟩
      ·cases hsl8
       have HCS:=M0 (Q7.cells (g:=g8) rfl)
       have HLN:=M0 (kr ms)
       go_wp2_with (at_builtin;refine Vv _ rfl (.tmp 40) (.tmp 41) 200 rfl w6.heap.size 138 i1 (.agg #[Vb Vd 0,.string ⟨#[]⟩]) 2 24 eX hj hy0 hy1 hy2 rfl (by decide) _ _ _ rfl O7 (a_ g8 0) ms.length _ (gT ms) rfl HLN HCS (jM _) ?h63 ?hby ?hba ?_)
       case h63=>simp only[maxLen];omega
       case hby=>omega
       case hba=>omega
       ·intro v10 w8 hown8 hg8 _
        have hB8:gm w2.heap.size w2 w8:=B7.grown hg8 (by omega) (fun x hx=>by have:=(O7.lt x hx).1;omega)
        have hO8:w8.ownsRow w6.heap.size 138 2 v10 (drop ps 52++ms).length (gT (drop ps 52++ms)):=by rw[ak,iV];exact hown8
        have hz8:=hg8.size
        have B8:=M0 hB8
        clear hown8 hg8 hB8
        obtain⟨X,hX⟩:∃X,X=drop ps 52++ms:=⟨_,rfl⟩
        have hXh:heavy X<=3145728:=by rw[hX,mM];omega
        rw[<-hX]at hO8 HOL
        clear hX
        obtain⟨a10,c10,hv10⟩:=ib hO8
        subst hv10
        have HJN:=M0 (zq a10 c10 X w8 (At.own hO8) (by omega))
        go_wp2_with fail
        refine HJN.mono ?_
        rintro e w9 ⟨v9,rfl,hown9,hb9⟩
        obtain⟨a11,c11,hv11⟩:=ib hown9
        subst hv11
        have O9:=M0 hown9
        have B9:=M0 (B8.trans (hb9.mono (by omega)))
        have hz9:w.heap.size<=w8.heap.size:=by omega
        clear hown9 hb9
        go_wp2
        go_ret
        refine⟨jh (jh HG1 HB2) B9,?_⟩
        rw[gB HK0,ay rfl,gB HOL]
        exact⟨_,rfl,nT O9 hz9⟩
end Dh
end Go.Proofs.YtdgacidndknceaaGreatDoor
