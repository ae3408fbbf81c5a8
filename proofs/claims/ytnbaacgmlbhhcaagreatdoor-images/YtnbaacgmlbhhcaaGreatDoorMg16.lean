import Derived.Test.YtnbaacgmlbhhcaaGreatDoorMg07
import Derived.Test.YtnbaacgmlbhhcaaGreatDoorMg15
set_option linter.all false
set_option maxHeartbeats 8000000
set_option maxRecDepth 10000
open Go.ChangeShapes Go.WideShapes Go.ChangeAt Go.RowKit
open Go renaming World → kV
open Go.Proofs.Tryz
namespace Go.Proofs.YtnbaacgmlbhhcaaGreatDoor
namespace Dh
open Bs
open Rd (mI mG ol nk)
def Du:(prog.info? 9).map (fun i=>(i.zero,i.size,i.bytes))=some (some (.string ⟨#[]⟩),1,16):=by kernel_rfl
def Qo(a:XO)(b:Nat)(os:lU)(w:kV)(c:At w a os)(d:heavy os<=268435456):
  C_ 279 #[.slice a os.length b,E8 52] w (.tuple #[.string ⟨(data os 52).toArray⟩,.bool (has os 52)]) (y_ w):=ER a b os 52 w c d
def Pv(a:XO)(b:Nat)(os:lU)(w:kV)(c:At w a os)(d:heavy os<=268435456):
  D_ 305 #[.slice a os.length b,E8 52] w fun e w'=>
   ∃v,e=.returned v/\w'.ownsRow w.heap.size 151 2 v (drop os 52).length (lQ (drop os 52))/\y_ w w':=KZ a b os 52 w c d
def wQ(d:XU)(host file:XB):List XB:=(if uL d then [file]else [])++(if KS d then [host]else [])
def LW(os:lU)(host file:XB)(w:kV)(e:Ending)(w':kV):Prop:=
 y_ w w'/\(if has os 52 then(if rZ (data os 52)then ∃v,e=.returned v/\w'.ownsRow w.heap.size 9 1 v (wQ (data os 52) host file).length ((wQ (data os 52) host file).map Value.string)else e=.panicked (mG 2))else e=.returned (.slice none 0 0))
def Rj(a:XO)(H:Nat)(os:lU)(host I:XB)(w:kV)(hA:At w a os)(hl:heavy os<=268435456):
  D_ 304 #[.slice a os.length H,.string host,.string I] w fun e w'=>LW os host I w e w':=by
 obtain⟨N,L,n,o,q⟩:=bZ Du;have f:=ll (Qo a H os w hA hl);unfold LW;obtain⟨d,hd⟩:=ex_ (data os 52);obtain⟨p,hp⟩:=ex_ (has os 52);rw[<-hd,<-hp]at f ⊢;clear hA hd hp
 cases p with
 |false=>
  go_enter func304,ntmps304;go_wp2_with fail;refine on_ f fun C b=>?_;have c:=ll b;have J:=b.size;clear b f;go_wp2;go_ret;exact⟨c,rfl⟩
 |true=>
  match d with
  |[]=>
   go_enter func304,ntmps304;go_wp2_with fail;refine on_ f fun C b=>?_;have c:=ll b;have J:=b.size;clear b f;go_wp2_with fail;refine(nk _ (by simp) _ _).mono ?_;rintro e j ⟨rfl,rfl⟩;exact⟨rfl,c,rfl⟩
  |x::y::r=>
   have a6:(⟨(x::y::r).toArray⟩:XB).size=r.length+2:=by rw[lF];simp
   obtain⟨s,hs⟩:∃s:XB,s=⟨(x::y::r).toArray⟩:=⟨_,rfl⟩;rw[<-hs]at a6 f;have a8:((s.size:Int)==1)=false:=by simp;omega
   clear hs a6;go_enter func304,ntmps304;go_wp2_with fail;refine on_ f fun C b=>?_;have c:=ll b;have J:=b.size;clear b f;go_wp2_with fail;refine(nk _ (by simp) _ _).mono ?_;rintro e j ⟨rfl,rfl⟩;exact⟨rfl,c,rfl⟩
  |[x]=>
   have m:=x.toNat_lt;have Y:∀u,(Instr.index 9 (.string ⟨#[x]⟩) (E4 0)).run prog u=.ok (E8 x.toNat) u:=fun _=>by kernel_rfl
   by_cases i:1<=x.toNat/\x.toNat<=3
   ·have a2:x.toNat=1∨x.toNat=2∨x.toNat=3:=by omega
    have M:rZ [x]=true:=by simp[rZ,i]
    rw[M]
    rcases a2 with g|g|g
    ·rw[g]at Y
     have t:wQ [x] host I=[I]:=by simp[wQ,uL,KS,g]
     rw[t];clear i M g m t;go_enter func304,ntmps304;go_wp2_with fail;refine on_ f fun C b=>?_;have c:=ll b;have J:=b.size;clear b f;go_wp2_with fail;refine(ol _ (by simp) _ _).mono ?_;rintro e j ⟨rfl,rfl⟩;go_wp2_with (at_builtin;refine bN _ rfl (.tmp 35) (.tmp 37) 49 rfl w.heap.size 9 N (.string ⟨#[]⟩) 1 16 iO L n o q rfl (by decide) _ 0 [] rfl ((aU _ _ _ _)) (n_ j 0) 1 1 [.string I] rfl rfl ?c1 ?one ?h63 ?hby ?hba ?_)
     case c1=>exact mU j [.string I] 9
     case one=>intro u l;simp at l;subst l;rfl
     case h63=>simp only[maxLen];omega
     case hby=>omega
     case hba=>simp;omega
     intro A D E U _;obtain⟨T,V,z⟩:=lH E;subst z;have O:y_ w D:=(c.alloc J _).grown U (by simp;omega) (fun k v=>by simp[Value.ownBlock]at v);have G:=ll E;have F:=ll O;clear E U O;go_wp2;go_ret;exact⟨F,_,rfl,G⟩
    ·rw[g]at Y
     have t:wQ [x] host I=[host]:=by simp[wQ,uL,KS,g]
     rw[t];clear i M g m t;go_enter func304,ntmps304;go_wp2_with fail;refine on_ f fun C b=>?_;have c:=ll b;have J:=b.size;clear b f;go_wp2_with fail;refine(ol _ (by simp) _ _).mono ?_;rintro e j ⟨rfl,rfl⟩;go_wp2_with (at_builtin;refine bN _ rfl (.tmp 43) (.tmp 45) 49 rfl w.heap.size 9 N (.string ⟨#[]⟩) 1 16 iO L n o q rfl (by decide) _ 0 [] rfl ((aU _ _ _ _)) (n_ j 0) 1 1 [.string host] rfl rfl ?c1 ?one ?h63 ?hby ?hba ?_)
     case c1=>exact mU j [.string host] 9
     case one=>intro u l;simp at l;subst l;rfl
     case h63=>simp only[maxLen];omega
     case hby=>omega
     case hba=>simp;omega
     intro A D E U _;obtain⟨T,V,z⟩:=lH E;subst z;have O:y_ w D:=(c.alloc J _).grown U (by simp;omega) (fun k v=>by simp[Value.ownBlock]at v);have G:=ll E;have F:=ll O;clear E U O;go_wp2;go_ret;exact⟨F,_,rfl,G⟩
    rw[g]at Y;have t:wQ [x] host I=[I,host]:=by simp[wQ,uL,KS,g]
    rw[t];clear i M g m t;go_enter func304,ntmps304;go_wp2_with fail;refine on_ f fun C b=>?_;have c:=ll b;have J:=b.size;clear b f;go_wp2_with fail;refine(ol _ (by simp) _ _).mono ?_;rintro e j ⟨rfl,rfl⟩;go_wp2_with (at_builtin;refine bN _ rfl (.tmp 35) (.tmp 37) 49 rfl w.heap.size 9 N (.string ⟨#[]⟩) 1 16 iO L n o q rfl (by decide) _ 0 [] rfl ((aU _ _ _ _)) (n_ j 0) 1 1 [.string I] rfl rfl ?c1 ?one ?h63 ?hby ?hba ?_)
    case c1=>exact mU j [.string I] 9
    case one=>intro u l;simp at l;subst l;rfl
    case h63=>simp only[maxLen];omega
    case hby=>omega
    case hba=>simp;omega
    intro A D E U _;obtain⟨T,V,z⟩:=lH E;have R:y_ w D:=(c.alloc J _).grown U (by simp;omega) (fun k v=>by simp[Value.ownBlock]at v);have a7:=R.size;have X:=ll E;have BA:=ll R;clear E U R;subst z;go_wp2_with (at_builtin;refine bN _ rfl (.tmp 43) (.tmp 45) 49 rfl w.heap.size 9 N (.string ⟨#[]⟩) 1 16 iO L n o q rfl (by decide) _ 1 [.string I] rfl ((X.alloc _)) (n_ D 0) 1 1 [.string host] rfl rfl ?c1 ?one ?h63 ?hby ?hba ?_)
    case c1=>exact mU D [.string host] 9
    case one=>intro u l;simp at l;subst l;rfl
    case h63=>simp only[maxLen];omega
    case hby=>omega
    case hba=>simp;omega
    intro B wB W Z _;obtain⟨T,V,z⟩:=lH W;subst z;have O:y_ w wB:=(BA.alloc a7 _).grown Z (by simp;omega) (fun k v=>(X.lt k v).1);have G:=ll W;have F:=ll O;clear W Z O;go_wp2;go_ret;exact⟨F,_,rfl,G⟩
   have M:rZ [x]=false:=by simp[rZ];omega
   rw[M]
   by_cases g:x.toNat=0
   ·rw[g]at Y
    clear i M g m;go_enter func304,ntmps304;go_wp2_with fail;refine on_ f fun C b=>?_;have c:=ll b;have J:=b.size;clear b f;go_wp2_with fail;refine(nk _ (by simp) _ _).mono ?_;rintro e j ⟨rfl,rfl⟩;exact⟨rfl,c,rfl⟩
   have q0:(((x.toNat:Nat):Int)!=0)=true:=by simp;omega
   have q1: ¬((x.toNat:Nat):Int)<=3:=by omega
   clear i M g m;go_enter func304,ntmps304;go_wp2_with fail;refine on_ f fun C b=>?_;have c:=ll b;have J:=b.size;clear b f;go_wp2_with fail;refine(nk _ (by simp;omega) _ _).mono ?_;rintro e j ⟨rfl,rfl⟩;exact⟨rfl,c,rfl⟩
end Dh
namespace Dh
open Bs
open Rd (lD)
def ZC:Tryz.zeroCells344=QP (fun _=>.slice none 0 0):=by kernel_rfl
def Z8:Tryz.zeroCells345=QP (fun _=>.bool false):=by kernel_rfl
def J1.start(w:kV):J1 w ((w.alloc (.cells Tryz.zeroCells344 344)).alloc (.cells Tryz.zeroCells345 345)) [] [] (.slice none 0 0) [] (fun _=>.slice none 0 0):=by
 have a:(w.alloc (.cells Tryz.zeroCells344 344)).heap.size=w.heap.size+1:=by simp
 refine⟨?_,?_,fun j c=>aU _ _ _ _,fun i j g _ _ _ b=>by simp[Value.ownBlock]at b,aU _ _ _ _,b1_.alloc (by simp) _⟩
 ·unfold wC
  rw[aO _ _ _ (by simp),<-ZC];exact ah w _
 have q:=ah (w.alloc (.cells Tryz.zeroCells344 344)) (.cells Tryz.zeroCells345 345);rw[a]at q;unfold wC;rw[q,Z8];rfl
def J1.alloc{w wr:kV}{a b:List Pc}{c:Value}{outs:List Pc}{V:Nat->Value}(h:J1 w wr a b c outs V)(o:Obj):J1 w (wr.alloc o) a b c outs V:=
 ⟨h.row.kept (aO _ _ _ h.row.lt),h.told.kept (aO _ _ _ h.told.lt),fun j d=>(h.own j d).alloc o,h.apart,h.out.alloc o,h.below.alloc h.below.size o⟩
def vU{w:kV}{b a e z:Nat}{v:Value}{n:Nat}{xs:XL}(h:w.ownsRow b e z v n xs)(c:a<=b):w.ownsRow a e z v n xs:=
 ⟨h.1,h.2.imp id (fun⟨g,cap,cur,e1,e2,r⟩=>⟨g,cap,cur,e1,aJ c e2,r⟩)⟩
def xq{w:kV}{b e z:Nat}{a:XO}{m d:Nat}{n:Nat}{xs:XL}(h:w.ownsRow b e z (.slice a m d) n xs)(l:0<n):∃g,a=some (a_ g 0)/\b<=g:=by
 rcases h.2 with⟨_,k⟩|⟨g,c,f,j,i,_⟩
 ·omega
 cases j
 exact⟨g,rfl,i⟩
def qU(os:lU)(cs:XU)(q:Nat):List Pc:=((cs.take q).map fun c=>(c,data os c))++((cs.drop q).map fun c=>(c,[]))
def R7(os:lU)(a:XU):qU os a 0=a.map fun c=>(c,[]):=by simp[qU]
def UW(os:lU)(a:XU):qU os a a.length=a.map fun c=>(c,data os c):=by simp[qU]
def yf(os:lU)(a:XU)(q:Nat)(b:q<=a.length):(qU os a q).length=a.length:=by simp[qU];omega
def Rw(os:lU)(a:XU)(q:Nat)(b:q<a.length):(qU os a q)[q]?=some (a[q],[]):=by
 simp only[qU];rw[bR (by simp;omega)];simp[b,jg (gL b)]
def QI(os:lU)(a:XU)(q:Nat)(c:q<a.length):(qU os a q).set q (a[q],data os a[q])=qU os a (q+1):=by
 apply eO;intro i;rw[jZ];have d:(qU os a q).length=a.length:=yf os a q (by omega);have f:(qU os a (q+1)).length=a.length:=yf os a (q+1) (by omega)
 by_cases e:q=i
 ·subst e
  rw[aB rfl,aB (by omega)];simp only[qU];rw[dx (by simp;omega)];simp[c]
 rw[az e];simp only[qU]
 by_cases b:i<q
 ·rw[dx (by simp;omega),dx (by simp;omega)]
  simp[b,show i<q+1 by omega]
 rw[bR (by simp;omega),bR (by simp;omega)];simp only[eu,aX,dY,jQ];congr 2
 omega
def af2{w wr w1:kV}{i:List Pc}{p k:Value}{outs:List Pc}{V:Nat->Value}(h:J1 w wr i i p outs V)(c:UInt8)(d:XU)(s:XB)(o:s.data.toList=d)
  (f:(wr.alloc (.cells #[E8 c.toNat,.string s] 151)).drew.grownBy w1 (V c.toNat).ownBlock) (a:k.ownBlock=(V c.toNat).ownBlock∨∀g,k.ownBlock=some g->(wr.alloc (.cells #[E8 c.toNat,.string s] 151)).drew.heap.size<=g)
  (E:w1.ownsRow (w.heap.size+2) 5 1 k ((data i c).length+s.size) (lC (data i c)++Lib.strCells s)):
  w1.cell? (n_ wr 0)=some (E8 c.toNat)/\w1.cell? (n_ wr 1)=some (.string s)/\w1.cell? (n_ w c.toNat)=some (V c.toNat)/\w1.frozen? (n_ w c.toNat)=false/\
   Hid (J1 w (w1.setCell (n_ w c.toNat) k) (i++ [(c,d)]) i p outs (fun j=>if j=c.toNat then k else V j)/\w1.heap[wr.heap.size]?=some (.cells #[E8 c.toNat,.string s] 151 (0,0)))/\∃q r,k=.slice q ((data i c).length+s.size) r:=by
 have n:=c.toNat_lt;have m:∀g,(V c.toNat).ownBlock=some g->w.heap.size+2<=g/\g<wr.heap.size:=fun g f=>(h.own c.toNat n).lt g f;have I:wr.grownBy w1 (V c.toNat).ownBlock:=⟨f.os,f.tape,f.output,aJ (by simp) f.size,fun b v M=>(f.block b (by simp;omega) M).trans (aO _ _ _ v)⟩;have A:w1.heap[wr.heap.size]?=some (.cells #[E8 c.toNat,.string s] 151 (0,0)):=by
  rw[f.block _ (by simp) (fun e=>by have:=(m _ e.symm).2;omega)];exact ah wr _
 have l:wC w1 w.heap.size 344 V:=h.row.kept (I.block _ h.row.lt (fun e=>by have:=(m _ e.symm).1;omega));have O:s.size=d.length:=by rw[<-o,aM];rfl
 refine⟨by rw[af w1 wr.heap.size 0 _ _ _ A];rfl,by rw[af w1 wr.heap.size 1 _ _ _ A];rfl,l.cell _ n,l.free _,ll ⟨?_,A⟩,lH E⟩;refine h.az3 c d ((data i c).length+s.size) (by rw[O]) ?_ I ?_
 ·have t:lC d=Lib.strCells s:=by rw[<-o];rfl
  rw[t];exact E
 rcases a with a|a
 ·exact aG a
 exact aF (fun g J=>by have:=a g J;simp at this;omega)
def FR(a:XO)(cap:Nat)(os:lU)(w:kV)(hA:At w a os)(hl:heavy os<=268435456):
  D_ 306 #[.slice a os.length cap] w fun e w'=>
   ∃v,e=.returned v/\w'.ownsRow w.heap.size 151 2 v (l_ [] os).length (lQ (l_ [] os))/\y_ w w':=by
 obtain⟨i0,hi,hz0,hz1,hz2⟩:=bZ yC;obtain⟨i1,hj,hy0,hy1,hy2⟩:=bZ qQ;have c9:os.length<=heavy os:=by unfold heavy;omega
 have HA:=ll hA;clear hA;go_enter func306,ntmps306;go_wp2;go_loopw [5,11] (fun v5 i wr=>∃(k:Nat) (b:XU) (V:Nat->Value),k<=os.length/\b.length<=k/\i=E4 k/\Hid (Jl (os.take k) b)/\Hid (J1 w wr (os.take k) (os.take k) v5 (b.map fun c=>(c,[])) V)) (fun _ i _=>os.length-(intOf i).toNat)
 case atStart=>exact⟨0,[],_,aR _,ae _,rfl,ll Jl.nil,ll (J1.start w)⟩
 obtain⟨k,b,V,hk,d5,rfl,D,l⟩:=hrel;rename kV=>wr
 by_cases t:k<os.length
 ·obtain⟨ad,rfl,c0,c1⟩:=HA.below l.below (ae _) k t
  obtain⟨d,m,Y⟩:∃x y,os[k]=(x,y):=⟨_,_,rfl⟩;have ht:=Aj os k t;have b9:=BV os (k+1);have b8:=Ew (os.take k) d;have b4:os.take (k+1)=os.take k++ [(d,m)]:=by rw[aS t,Y]
  rw[Y]at c0 c1 ht;simp only at c0 c1 ht;have O:=ll b4;have f:=d.toNat_lt;have hc0:(0:Int)<=(d.toNat:Int):=by omega
  have hc1:((d.toNat:Nat):Int)<256:=by omega
  obtain⟨s,N⟩:∃s:XB,s=⟨m.toArray⟩:=⟨_,rfl⟩;have b3:s.size=m.length:=by rw[N];exact lF m
  have b2:s.data.toList=m:=by rw[N]
  rw[<-N]at c1;have HS:=ll b2;have d3:=ll b3;have d8:w.heap.size+2<=wr.heap.size:=by have:=l.told.lt;omega
  have b7:∀o,(wr.alloc o).cell? (n_ w d.toNat)=some (V d.toNat):=fun o=>(l.alloc o).row.cell d.toNat f;have A:=l.own d.toNat f;rw[BD]at A;have a6:=ll A;have hn0:(data (os.take k) d).length+m.length<=268435456:=by omega
  have hn1:(data (os.take k) d).length+s.size<=268435456:=by omega
  clear Y b4 N b2 b3 A ht b9 b8;have b6:Hid (∃r,J1 w wr (os.take k) (os.take k) u5 (b.map fun c=>(c,[])) r):=ll ⟨V,l⟩;go_wp2;go_cut [] (fun wc=>Hid ((∃r,J1 w wc (os.take k++ [(d,m)]) (os.take k) u5 (b.map fun c=>(c,[])) r)/\wc.heap[wr.heap.size]?=some (.cells #[E8 d.toNat,.string s] 151 (0,0))));case first=>
   go_region_law (refine yh rfl (.tmp 20) (.tmp 22) 55 9 rfl (w.heap.size+2) 5 i0 bQ dB hi hz0 hz1 hz2 (V d.toNat) _ _ (by simp[Act.eval]) (a6.alloc _).drew s (by simp[Act.eval]) (by simp only[maxLen];omega) (by omega) (by simp;omega) ?_;intro v' w1 E H a7;obtain⟨b0,b1,d0,df,H2,ao,cp,c8⟩:=af2 l d m s HS H a7 E;clear E H a7;subst c8)
   all_goals go_wp2
   all_goals go_meet
   all_goals exact ll ⟨⟨_,H2.1⟩,by rw[aD _ _ _ _ (by simp;omega)];exact H2.2⟩
  rename kV=>wc;obtain⟨⟨r,n⟩,U⟩:=lq hcut;have d2:wr.heap.size<wc.heap.size:=aC U;have b0:wc.cell? (n_ wr 0)=some (E8 d.toNat):=by rw[af wc wr.heap.size 0 _ _ _ U];rfl
  have t0:wc.cell? (m_ w d.toNat)=some (.bool (has (os.take k) d)):=by
   have q:=n.told.cell d.toNat f;simp only[BD]at q;exact q
  have tf:=n.told.free d.toNat;have b5:=ll U;have F:=ll n;clear hcut U n b7 a6 l b6 c0 c1
  by_cases C:has (os.take k) d=true
  ·rw[C]at t0
   have T:Hid (J1 w wc (os.take (k+1)) (os.take (k+1)) u5 (b.map fun c=>(c,[])) r):=ll (by rw[lq O];exact F.at0 C);have R:Hid (Jl (os.take (k+1)) b):=ll (by rw[lq O];exact D.step d m C);clear C;go_wp2;go_roundw
   case rel=>exact⟨k+1,b,r,by omega,by omega,by go_num,R,T⟩
   simp[intOf];omega
  have Z:has (os.take k) d=false:=by simpa using C
  rw[Z]at t0;have H3:=ll (F.stepT);have hb3:(wc.setCell (m_ w d.toNat) (.bool true)).cell? (n_ wr 0)=some (E8 d.toNat):=by
   rw[af _ wr.heap.size 0 _ _ _ ((aD _ _ _ _ (by simp;omega)).trans b5)];rfl
  have R:Hid (Jl (os.take (k+1)) (b++ [d])):=ll (by rw[lq O];exact D.more d m Z);clear C Z;go_wp2_with (at_builtin;refine bN _ rfl (.tmp 33) (.tmp 37) 184 rfl (w.heap.size+2) 151 i1 (.agg #[E8 0,.string ⟨#[]⟩]) 2 24 gm hj hy0 hy1 hy2 rfl (by decide) _ _ _ rfl ((lq H3).out.alloc _) (n_ wc 0) 1 1 [E8 d.toNat,.string ⟨#[]⟩] rfl rfl ?c1 ?one ?h63 ?hby ?hba ?_);case c1=>
   have q:=mU (wc.setCell (m_ w d.toNat) (.bool true)) [E8 d.toNat,.string ⟨#[]⟩] 151;simpa using q
  case one=>intro u hu;simp at hu;rcases hu with rfl|rfl<;>rfl
  case h63=>simp only[maxLen,eu];omega
  case hby=>simp only[eu];omega
  case hba=>simp;omega
  intro v' w4 E H _;have G:=(H3.alloc (.cells #[E8 d.toNat,.string ⟨#[]⟩] 151)).au7 (d,[]) (b.length+1) (by rw[eu]) E H;have T:Hid (J1 w w4 (os.take (k+1)) (os.take (k+1)) v' ((b++ [d]).map fun c=>(c,[])) r):=ll (by rw[lq O,dz];exact G);clear E H G;go_wp2;go_roundw
  case rel=>exact⟨k+1,b++ [d],r,by omega,by simp only[au,ax,bn];omega,by go_num,R,T⟩
  simp[intOf];omega
 have e:k=os.length:=by omega
 subst e;rw[bJ]at D l;obtain⟨ao,cp,L⟩:=lH (lq l).out;rw[eu]at L;subst L;have HU:=ll (R7 os b);go_wp2;go_loopw [42] (fun i wq=>∃(q:Nat),q<=b.length/\i=E4 q/\Hid (J1 w wq os os (.slice ao b.length cp) (qU os b q) V)) (fun i _=>b.length-(intOf i).toNat)
 case atStart=>exact⟨0,aR _,rfl,ll (by rw[lq HU];exact l)⟩
 obtain⟨q,hq,rfl,B⟩:=hrel;rename kV=>wq
 by_cases z:q<b.length
 ·have I:=yf os b q (by omega)
  have p:=(lq B).out;obtain⟨g,rfl,d6⟩:=xq p (by rw[I];omega);obtain⟨c,hc⟩:=ex_ (b[q]);have M:(qU os b q)[q]?=some (c,[]):=by rw[hc];exact Rw os b q z
  have W:q<(qU os b q).length:=by rw[I];exact z
  have J:(qU os b q)[q]=(c,[]):=by
   rw[aN W]at M;exact aV M
  have a4:(qU os b q).set q (c,data os c)=qU os b (q+1):=by rw[hc];exact QI os b q z
  obtain⟨k0,k1⟩:=rQ (qU os b q) q W;rw[J]at k0 k1;have X:=p.cells (g:=g) rfl;have o0:=X _ _ k0;have o1:=X _ _ k1;rw[nz]at o0 o1;have f:=c.toNat_lt;have d4:((c.toNat:Nat):Int)<256:=by omega
  rw[I]at p;have d7:=fun j=>p.frozenAt j;have d0:=B.row.cell c.toNat f;have A:=B.own c.toNat f;rw[BD]at A;have a8:=oG wq _ (V c.toNat) _ A;have hJ:=(lq B);rw[<-I]at hJ;have hD:=hJ.aw9 q W (data os c);rw[I,J,a4]at hD;have HD:=ll hD;have d1:(q:Int)<(b.length:Int):=by omega
  obtain⟨sd,a9⟩:∃sd:XB,sd=⟨(data os c).toArray⟩:=⟨_,rfl⟩;rw[<-a9]at a8 HD;obtain⟨av,pv,hV⟩:=lH A;rw[hV]at d0 a8;clear p M J a4 k0 k1 X A hJ hD I W l hc a9 hV;go_wp2;go_roundw
  case rel=>exact⟨q+1,by omega,by go_num,HD⟩
  simp[intOf];omega
 have e2:q=b.length:=by omega
 subst e2;have HF:Hid (qU os b b.length=l_ [] os):=ll (by rw[D.all];exact UW os b);go_wp2;go_ret;refine⟨_,rfl,?_,B.below⟩;have p:=(lq B).out;rw[lq HF]at p;have hl2:(l_ [] os).length=b.length:=by rw[D.all,eu]
 rw[hl2]at p ⊢;exact vU p (by omega)
end Dh
namespace Dh
open Bs
open Rd (mI mG)
def nW(p:Pc)(r:List Pc):heavy (p::r)=1+p.2.length+heavy r:=by
 simp only[heavy,ax,bW,iT];omega
def sD(a b:List Pc):heavy (a++b)=heavy a+heavy b:=by
 simp only[heavy,dz,jN,au];omega
def qa(n:Nat):∀(l:XU) (b:List Pc),l.length<=n->pieces l=some b->heavy b<=l.length:=by
 induction n with
 |zero=>
  intro l b a h
  match l,a with
  |[],_=>rw[xY]at h;cases h
 |succ n ih=>
  intro l b a h
  match l,a with
  |[],_=>rw[xY]at h;cases h
  |c::r,a=>
   by_cases f:c.toNat=255
   ·rw[Ak c r f]at h
    cases h
    simp[heavy]
   by_cases d:c.toNat=0
   ·rw[zg c r d]at h
    have:=ih r b (by simp at a;omega) h;simp only[ax];omega
   match r,a with
   |[],_=>rw[zb c f d]at h;cases h
   |m::q,a=>
    by_cases i:q.length<m.toNat
    ·rw[AA c m q f d i]at h;cases h
    have g:=(zt c m q f d i).symm.trans h
    cases hp:pieces (q.drop m.toNat)with
    |none=>rw[hp]at g;cases g
    |some ps'=>
     rw[hp]at g;obtain rfl:=aV g;have:=ih (q.drop m.toNat) ps' (by simp at a ⊢;omega) hp;rw[bz]at this;rw[nW];simp only[ax,aX];omega
def PD(a:List Pc)(c:UInt8):heavy (drop a c)<=heavy a:=by
 induction a with
 |nil=>exact ae _
 |cons p r ih=>
  simp only[drop,dI]at ih ⊢
  split
  ·rw[nW,nW];omega
  rw[nW];omega
def nI:List XB->Option (List Pc)
 |[]=>some []
 |a::r=>(pieces a.data.toList).bind fun p=>(nI r).map fun q=>p++q
def strsOf(ps:List Pc)(host file:XB):List XB:=if has ps 52 then wQ (data ps 52) host file else []
def ag4(a:List Pc)(host A:XB):(strsOf a host A).length<=2:=by
 unfold strsOf wQ
 split
 ·rw[au];split<;>split<;>simp
 simp
def WV(d:List Pc)(host A:XB)(n:Nat)(c:host.size<=n)(b:A.size<=n):∀s ∈ strsOf d host A,s.size<=n:=fun s a=>by
 unfold strsOf wQ at a
 split at a
 ·rw[iD]at a
  rcases a with a|a
  ·split at a
   ·simp at a;subst a;exact b
   simp at a
  split at a
  ·simp at a;subst a;exact c
  simp at a
 simp at a
def Ii(d:XU)(host A:XB):tF (uL d) (KS d) A.data.toList host.data.toList=nI (wQ d host A):=by
 unfold tF wQ
 cases hF:uL d<;>cases hH:KS d
 ·rfl
 ·simp only[nI,aY,bD,bI,iA]
  cases pieces host.data.toList<;>simp
 ·simp only[nI,aY,bD,bI,dJ]
  cases pieces A.data.toList<;>simp
 simp only[nI,bI,iY,iA]
 cases pieces A.data.toList<;>cases pieces host.data.toList<;>simp
def IK(l:XU)(host A:XB)(h:pieces l=none):uj l host.data.toList A.data.toList=1:=by rw[uj,h]
def KJ(l:XU)(host A:XB)(a:List Pc)(h:pieces l=some a)(b:has a 52=true)(c:rZ (data a 52)=false):uj l host.data.toList A.data.toList=2:=by
 rw[uj,h];simp[b,c]
def Tu(l:XU)(host A:XB)(a:List Pc)(h:pieces l=some a)(b:has a 52=true->rZ (data a 52)=true):
  uj l host.data.toList A.data.toList=(match nI (strsOf a host A)with|none=>1|some m=>if has m 52 then 2 else 0):=by
 rw[uj,h];unfold strsOf
 cases hh:has a 52
 ·simp only[hh,aY,bD,nI]
  rfl
 have c:=b hh;simp only[hh,bI,c,Ii]
 cases nI (wQ (data a 52) host A)<;>rfl
def Uk(l:XU)(host A:XB)(b m:List Pc)(h:pieces l=some b)(a:nI (strsOf b host A)=some m):
  qc l host.data.toList A.data.toList=l_ [] (drop b 52++m):=by
 rw[qc,h];unfold strsOf at a
 cases hh:has b 52
 ·rw[hh]at a
  simp[nI]at a;subst a;simp only[hh,aY,bD,dJ,ah5 b 52 hh]
 rw[hh]at a;simp only[bI]at a;simp only[hh,bI];rw[Ii,a]
def Ka(a:List XB)(k:Nat)(h:k<a.length)(b c:List Pc)(d:nI a=(nI (a.drop k)).map fun x=>b++x)(f:pieces a[k].data.toList=some c):
  nI a=(nI (a.drop (k+1))).map fun x=>(b++c)++x:=by
 refine d.trans ?_;rw[bV h,nI,f]
 cases nI (a.drop (k+1))with
 |none=>rfl
 |some x=>simp
def Pj(a:List XB)(k:Nat)(h:k<a.length)(d:List Pc)(b:nI a=(nI (a.drop k)).map fun x=>d++x)(c:pieces a[k].data.toList=none):nI a=none:=by
 refine b.trans ?_;rw[bV h,nI,c];rfl
def SA(w:kV)(a:XO)(ss:List XB):Prop:=∀i (h:i<ss.length),∃ad,a=some ad/\w.cell? (ad.add i)=some (.string ss[i])
def SA.below{w w':kV}{a:XO}{c:List XB}{n:Nat}(h:SA w a c)(f:Below n w w')(j:w.heap.size<=n):SA w' a c:=fun i g=>by
 obtain⟨d,e,b⟩:=h i g;have k:=pV b;exact⟨d,e,by rw[f.cell (by omega)];exact b⟩
def SA.own{w:kV}{b:Nat}{c:XO}{d:Nat}{a:List XB}(h:w.ownsRow b 9 1 (.slice c a.length d) a.length (a.map Value.string)):SA w c a:=fun i f=>by
 obtain⟨g,rfl,_⟩:=xq h (by omega);exact⟨(a_ g 0),rfl,h.cells (g:=g) rfl i _ (by simp[f])⟩
def At.own{w:kV}{b:Nat}{a:XO}{c:Nat}{os:lU}(h:w.ownsRow b 151 2 (.slice a os.length c) os.length (lQ os)):At w a os:=by
 by_cases d:0<os.length
 ·obtain⟨g,rfl,_⟩:=xq h d
  exact At.Ck (h.cells (g:=g) rfl)
 exact fun i f=>by omega
def CE{w:kV}{b e z:Nat}{v:Value}{n:Nat}{xs:XL}(h:w.ownsRow b e z v n xs):(v=.slice none 0 0/\n=0)∨∃g c,v=.slice (some (a_ g 0)) n c:=by
 rcases h.2 with f|⟨g,a,d,rfl,_⟩
 ·exact aG f
 exact aF ⟨g,a,rfl⟩
end Dh
namespace Dh
open Bs
open Rd (mI mG lZ lD ol nk)
def own_below{w w':kV}{b e z:Nat}{v:Value}{n:Nat}{xs:XL}(h:w.ownsRow b e z v n xs)(a:y_ w w'):w'.ownsRow b e z v n xs:=
 h.kept (w':=w') (row:=none) ⟨a.os,a.tape,a.output,a.size,fun i c _=>a.block i c⟩ (by cases h:v.ownBlock<;>simp)
def PG(l:XU)(host file:XB)(B:Nat)(w:kV)(e:Ending)(w':kV):Prop:=
 w.grownBy w' (some B)/\(if uj l host.data.toList file.data.toList=0 then ∃v,e=.returned v/\w'.ownsRow w.heap.size 151 2 v (qc l host.data.toList file.data.toList).length (lQ (qc l host.data.toList file.data.toList))else e=.panicked (mG (uj l host.data.toList file.data.toList)))
def zG{l:XU}{E A:XB}{B:Nat}{w w':kV}(k:Nat)(c:uj l E.data.toList A.data.toList=k)(a:k≠0)(b:w.grownBy w' (some B)):PG l E A B w (.panicked (mG k)) w':=by
 refine⟨b,?_⟩;rw[c,az a]
def Jn(B:Nat)(l:XU)(host A:XB)(w:kV)(h:mI w B l)(hl:l.length<=1048576)(hh:host.size<=1048576)(hf:A.size<=1048576):
  D_ 278 #[p_ B,.string host,.string A] w fun e w'=>PG l host A B w e w':=by
 obtain⟨i1,hj,hy0,hy1,hy2⟩:=bZ qQ;have HR:=ll h;have hB:=h.lt;clear h;go_enter func278,ntmps278;go_wp2_with fail;refine(Lp B l _ HR (by omega)).mono ?_;rintro e w1 ⟨D,E⟩
 cases hp:pieces l with
 |none=>
  rw[hp]at E;simp only at E;subst E;exact⟨rfl,zG 1 (IK l host A hp) (by omega) D⟩
 |some ps=>
  rw[hp]at E;obtain⟨v1,rfl,O⟩:=E;obtain⟨ao1,cp1,rfl⟩:=lH O;have e4:=qa l.length l ps (ae _) hp;have HA1:=ll (At.own O);have d:=ll D;have hz1:=D.size;have HP:=ll hp;have b5:=ll (Rj ao1 cp1 ps host A w1 HA1 (by omega));clear D hp O;go_wp2_with fail;refine b5.mono ?_;rintro e r ⟨z,I⟩;have c:=ll z;have hz2:=z.size
  by_cases hbad:has ps 52=true/\rZ (data ps 52)=false
  ·rw[aB hbad.1,az (by rw[hbad.2];decide)]at I
   subst I;exact⟨rfl,zG 2 (KJ l host A ps HP hbad.1 hbad.2) (by omega) (lZ d z)⟩
  have hok:has ps 52=true->rZ (data ps 52)=true:=fun R=>by
   by_cases h2:rZ (data ps 52)=true
   ·exact h2
   exact absurd ⟨R,by simpa using h2⟩ hbad
  have d6:∃a2 c2,e=.returned (.slice a2 (strsOf ps host A).length c2)/\SA r a2 (strsOf ps host A):=by
   unfold strsOf
   by_cases R:has ps 52=true
   ·rw[aB R,aB (hok R)]at I
    obtain⟨v,rfl,hv⟩:=I;obtain⟨a2,c2,rfl⟩:=lH hv;rw[aB R];exact⟨a2,c2,rfl,SA.own hv⟩
   rw[az R]at I;rw[az R];exact⟨none,0,I,fun i hi=>by simp at hi⟩
  obtain⟨a2,c2,rfl,b4⟩:=d6;have e6:=ag4 ps host A;have b2:=ll (WV ps host A 1048576 hh hf);have HK:=ll (Tu l host A ps HP hok);have G:=ll (fun m=>Uk l host A ps m HP);obtain⟨t,d1⟩:=ex_ (strsOf ps host A);rw[<-d1]at b4 e6 b2 HK G ⊢;have b7:=ll b4;clear I z hbad hok b4 d1 b5;go_wp2;go_loopw [8,21] (fun v8 i wr=>∃(k:Nat) (a:List Pc),k<=t.length/\i=E4 k/\heavy a<=1048576*k/\Hid (nI t=(nI (t.drop k)).map fun x=>a++x)/\Hid (wr.ownsRow r.heap.size 151 2 v8 a.length (lQ a))/\Hid (y_ r wr)) (fun _ i _=>t.length-(intOf i).toNat)
  case atStart=>exact⟨0,[],aR _,rfl,by simp[heavy],ll (by simp),ll (aU _ _ _ _),ll (aK _ _)⟩
  obtain⟨k,a,hk,rfl,e2,HM,HO,HW⟩:=hrel;rename kV=>wr;have e8:a.length<=heavy a:=by unfold heavy;omega
  have d3:=HW.size
  by_cases F:k<t.length
  ·obtain⟨ad,rfl,c0⟩:=b7.below HW (ae _) k F
   have d2:=b2 _ (dw F);obtain⟨s,hs⟩:=ex_ (t[k]);rw[<-hs]at c0 d2;have H:=ll (Ka t k F a);have b0:=ll (Pj t k F a HM);rw[<-hs]at H b0;have c9:mI (wr.alloc (.cells #[.string s] 217)) wr.heap.size s.data.toList:=by
    have q:=ah wr (.cells #[.string s] 217);unfold mI;rw[Rd.tX];exact q
   have b6:=ll (Lp wr.heap.size s.data.toList _ c9 (by rw[aM];show s.size<=_;omega));have f0:s.data.toList.length<=1048576:=by rw[aM];exact d2
   clear c9 hs;go_wp2_with fail;refine b6.mono ?_;rintro e w3 ⟨hg3,E⟩;have y:y_ r w3:=(HW.alloc d3 _).grown hg3 (by simp;omega) (fun x hx=>by cases hx;omega);have hO3:=(HO.alloc (.cells #[.string s] 217)).kept hg3 (not_row (fun g hg e=>by cases e;have:=(HO.lt _ hg).2;omega))
   cases hp:pieces s.data.toList with
   |none=>
    rw[hp]at E;simp only at E;subst E;refine⟨rfl,zG 1 ?_ (by omega) (lZ (lZ d c) y)⟩;rw[lq HK,b0 hp]
   |some qs=>
    rw[hp]at E;obtain⟨v3,rfl,M⟩:=E;have f1:=qa _ s.data.toList qs (ae _) hp;have f2:qs.length<=heavy qs:=by unfold heavy;omega
    have b8:=ll (H qs HM hp);have O3:=ll hO3;have B3:=ll y;have Q3:=ll M;have hz3:=y.size;clear hg3 hO3 y HM H b0 hp b6
    rcases CE M with⟨rfl,hq0⟩|⟨g3,cp3,rfl⟩
    ·have e5:qs=[]:=dD hq0
     subst e5;clear M;go_wp2_with (at_builtin;refine wpList_append_own_none rfl (.tmp 27) (.tmp 28) 184 rfl r.heap.size 151 i1 2 gm hj _ _ _ rfl O3 rfl ?_);obtain⟨a8,c8,p⟩:=lH O3;subst p;go_wp2;go_roundw
     case rel=>exact⟨k+1,a,by omega,by go_num,by omega,ll (by have q:=lq b8;rwa [dJ]at q),O3,B3⟩
     simp[intOf];omega
    have d0:=M.cells (g:=g3) rfl;have a4:=ll d0;have a9:=ll (oW qs);have d4:=(lq O3);clear M d0 d4;go_wp2_with (at_builtin;refine bN _ rfl (.tmp 27) (.tmp 28) 184 rfl r.heap.size 151 i1 (.agg #[E8 0,.string ⟨#[]⟩]) 2 24 gm hj hy0 hy1 hy2 rfl (by decide) _ _ _ rfl O3 (a_ g3 0) qs.length cp3 (lQ qs) rfl a9 a4 (qd _) ?h63 ?hby ?hba ?_)
    case h63=>simp only[maxLen];omega
    case hby=>omega
    case hba=>omega
    intro v' w4 U hg4 _;have hB4:y_ r w4:=B3.grown hg4 hz3 (fun x hx=>(O3.lt x hx).1);have hO4:w4.ownsRow r.heap.size 151 2 v' (a++qs).length (lQ (a++qs)):=by rw[au,mV];exact U
    obtain⟨a8,c8,p⟩:=lH U;have O4:=ll hO4;have B4:=ll hB4;clear U hg4 hB4 hO4;subst p;go_wp2;go_roundw
    case rel=>exact⟨k+1,a++qs,by omega,by go_num,by rw[sD];omega,b8,O4,B4⟩
    simp[intOf];omega
  have e0:k=t.length:=by omega
  subst e0;have b3:nI t=some a:=by
   refine HM.trans ?_;rw[List.drop_length,nI];simp
  have a7:=ll (show uj l host.data.toList A.data.toList=if has a 52 then 2 else 0 by rw[lq HK,b3]);have W:=ll (G a b3);obtain⟨a8,c8,p⟩:=lH HO;subst p;have e7:heavy a<=2097152:=by omega
  have HD:=ll (Qo a8 c8 a wr (At.own HO) (by omega));clear HM b3 HK G b2 b7 e2;go_wp2_with fail;refine on_ HD fun w5 Z=>?_;have T:y_ r w5:=HW.trans (Z.mono d3);have hO5:=own_below HO Z;have B5:=ll T;have O5:=ll hO5;have hz5:=T.size;clear Z T hO5 HD HO
  by_cases f:has a 52=true
  ·rw[f]
   go_wp2_with fail;refine(nk _ (by simp) _ _).mono ?_;rintro e w6 ⟨rfl,rfl⟩;refine⟨rfl,zG 2 ?_ (by omega) (lZ (lZ d c) B5)⟩;rw[lq a7,aB f]
  have d5:has a 52=false:=by simpa using f
  have HK0:Hid (uj l host.data.toList A.data.toList=0):=ll (by rw[lq a7,az f]);rw[d5];clear f a7;go_wp2_with fail;refine(ol _ (by simp) _ _).mono ?_;rintro e w6 ⟨rfl,rfl⟩;have b9:=ll (Pv ao1 cp1 ps w6 ((HA1.below c (ae _)).below B5 (ae _)) (by omega));go_wp2_with fail;refine b9.mono ?_;rintro e w7 ⟨v7,rfl,Y,C⟩;have e1:=PD ps 52;have e9:(drop ps 52).length<=heavy (drop ps 52):=by unfold heavy;omega
  have hB7:y_ r w7:=B5.trans (C.mono hz5);have hO7:=own_below O5 C;have hz7:=C.size;have O7:=ll Y;have Q7:=ll hO7;have B7:=ll hB7;clear Y C hO7 hB7 b9 O5 B5
  rcases CE Q7 with⟨d7,hq0⟩|⟨g8,cp8,d8⟩
  ·have e3:a=[]:=dD hq0
   subst e3
   cases d7
   go_wp2_with (at_builtin;refine wpList_append_own_none rfl (.tmp 40) (.tmp 41) 184 rfl w6.heap.size 151 i1 2 gm hj _ _ _ rfl O7 rfl ?_);have b:w7.ownsRow w6.heap.size 151 2 v7 (drop ps 52++ []).length (lQ (drop ps 52++ [])):=by rw[dJ];exact O7
   obtain⟨X,V⟩:=ex_ (drop ps 52++ []);have d9:heavy X<=3145728:=by rw[V,sD];simp only[heavy,bn,fP,List.sum_nil]at e1 e4 ⊢;omega
   rw[<-V]at b W;clear V;obtain⟨L,N,n⟩:=lH b;subst n;have a6:=ll (FR L N X w7 (At.own b) (by omega));go_wp2_with fail;refine a6.mono ?_;rintro e w9 ⟨v9,rfl,J,j⟩;obtain⟨a11,c11,o⟩:=lH J;subst o;have O9:=ll J;have B9:=ll (B7.trans (j.mono (by omega)));have hz9:w.heap.size<=w7.heap.size:=by omega
   clear J j;go_wp2;go_ret;refine⟨lZ (lZ d c) B9,?_⟩;rw[lq HK0,aB rfl,lq W];exact⟨_,rfl,vU O9 hz9⟩
  cases d8
  have a4:=ll (Q7.cells (g:=g8) rfl);have a9:=ll (oW a);go_wp2_with (at_builtin;refine bN _ rfl (.tmp 40) (.tmp 41) 184 rfl w6.heap.size 151 i1 (.agg #[E8 0,.string ⟨#[]⟩]) 2 24 gm hj hy0 hy1 hy2 rfl (by decide) _ _ _ rfl O7 (a_ g8 0) a.length _ (lQ a) rfl a9 a4 (qd _) ?h63 ?hby ?hba ?_)
  case h63=>simp only[maxLen];omega
  case hby=>omega
  case hba=>omega
  intro v10 w8 a0 hg8 _;have hB8:y_ r w8:=B7.grown hg8 (by omega) (fun x hx=>by have:=(O7.lt x hx).1;omega);have b:w8.ownsRow w6.heap.size 151 2 v10 (drop ps 52++a).length (lQ (drop ps 52++a)):=by rw[au,mV];exact a0
  have hz8:=hg8.size;have B8:=ll hB8;clear a0 hg8 hB8;obtain⟨X,V⟩:=ex_ (drop ps 52++a);have d9:heavy X<=3145728:=by rw[V,sD];omega
  rw[<-V]at b W;clear V;obtain⟨L,N,n⟩:=lH b;subst n;have a6:=ll (FR L N X w8 (At.own b) (by omega));go_wp2_with fail;refine a6.mono ?_;rintro e w9 ⟨v9,rfl,J,j⟩;obtain⟨a11,c11,o⟩:=lH J;subst o;have O9:=ll J;have B9:=ll (B8.trans (j.mono (by omega)));have hz9:w.heap.size<=w8.heap.size:=by omega
  clear J j;go_wp2;go_ret;refine⟨lZ (lZ d c) B9,?_⟩;rw[lq HK0,aB rfl,lq W];exact⟨_,rfl,vU O9 hz9⟩
end Dh
namespace Dh
open Bs Rd
open mR (other xA lu nQ lG)
def vS(n:Int)(w:kV):C_ 277 #[E8 n] w (.bool (n==1||n==2)) fun w'=>w'=w:=by
 by_cases a:n=1
 ·subst a
  go_enter func277,ntmps277;go_wp2;go_ret;exact⟨rfl,rfl⟩
 have q:(n==1)=false:=by simpa using a
 go_enter func277,ntmps277;go_wp2;go_ret;exact⟨by rw[q];rfl,rfl⟩
def KE(B:Nat)(l:XU)(n:Nat)(w:kV)(h:mI w B l)(a:n<=l.length)(b:l.length<=maxLen):
  C_ 203 #[p_ B,E4 n] w (.string ⟨(l.take n).toArray⟩) fun w'=>mI w' B (l.drop n)/\w.grownBy w' (some B):=by
 refine(tZ B l n w h a b).mono ?_;rintro e c ⟨rfl,rfl⟩;exact⟨rfl,h.set _,oP _⟩
def BU(B n:Nat)(s:XB)(q l:XU)(w:kV)(h:mI w B l)(a:l=s.data.toList++q)(c:s.size=n)(d:l.length<=maxLen):
  C_ 203 #[p_ B,E4 n] w (.string s) fun w'=>mI w' B q/\w.grownBy w' (some B):=by
 have b:s.data.toList.length=n:=by rw[aM];exact c
 have f:l.take n=s.data.toList:=by rw[a,<-b,j5]
 have g:l.drop n=q:=by rw[a,<-b,List.drop_left]
 have t:=KE B l n w h (by rw[a,au];omega) d;rw[f,g,tX]at t;exact t
def WH(B:Nat)(a b:UInt8)(l:XU)(w:kV)(h:mI w B (a::b::l))(c:(a::b::l).length<=maxLen):
  C_ 203 #[p_ B,E4 2] w (.string ⟨#[a,b]⟩) fun w'=>mI w' B l/\w.grownBy w' (some B):=KE B (a::b::l) 2 w h (by simp) c
def lens{m b c d a:XU}{f j i g:XB}(k:m=f.data.toList++b)(l:b=j.data.toList++c)(n:c=i.data.toList++d)(o:d=g.data.toList++a)(t:f.size=10)(v:j.size=64)(y:i.size=128)(z:g.size=4):
  m.length=206+a.length/\b.length=196+a.length/\c.length=132+a.length/\d.length=4+a.length:=by
 have p:m.length=f.size+b.length:=by rw[k,au,aM];rfl
 have q:b.length=j.size+c.length:=by rw[l,au,aM];rfl
 have r:c.length=i.size+d.length:=by rw[n,au,aM];rfl
 have s:d.length=g.size+a.length:=by rw[o,au,aM];rfl
 omega
def aw8(B:Nat)(a:UInt8)(l:XU)(w:kV)(h:mI w B (a::l))(g:(a::l).length<=maxLen)(b:((a.toNat:Int)==1||(a.toNat:Int)==2)=true):
  C_ 276 #[p_ B,.func (.func 249) #[] #[],.func (.func 277) #[] #[],E4 2] w (E8 a.toNat) fun w'=>mI w' B l/\w.grownBy w' (some B):=by
 have c:=ll (qy B a l w h g);obtain⟨x,i⟩:=ex_ ((a.toNat:Int));rw[<-i]at c b ⊢;have n:=ll b;have m:=ll (fun u=>vS x u);clear h i g b;go_enter func276,ntmps276;go_wp2_with fail;refine on_ c ?_;rintro o ⟨f,d⟩;have k:=ll f;have j:=ll d;clear f d;go_wp2_with fail;refine(m _).mono ?_;rintro e p ⟨rfl,rfl⟩;rw[lq n];go_wp2_with fail;refine(nT _ _).mono ?_;rintro _ q ⟨rfl,rfl⟩;go_wp2;go_ret;exact⟨rfl,k,j⟩
def aA4(B:Nat)(a:UInt8)(l:XU)(w:kV)(h:mI w B (a::l))(g:(a::l).length<=maxLen)(b:((a.toNat:Int)==1||(a.toNat:Int)==2)=false):
  D_ 276 #[p_ B,.func (.func 249) #[] #[],.func (.func 277) #[] #[],E4 2] w fun e w'=>e=.panicked (mG 2)/\w.grownBy w' (some B):=by
 have c:=ll (qy B a l w h g);obtain⟨x,i⟩:=ex_ ((a.toNat:Int));rw[<-i]at c b;have m:=ll b;have k:=ll (fun u=>vS x u);clear h i g b;go_enter func276,ntmps276;go_wp2_with fail;refine on_ c ?_;rintro o ⟨f,d⟩;have n:=ll f;have j:=ll d;clear f d;go_wp2_with fail;refine(k _).mono ?_;rintro e p ⟨rfl,rfl⟩;rw[lq m];go_wp2_with fail;refine(oU _ _).mono ?_;rintro _ q ⟨rfl,rfl⟩;exact⟨rfl,rfl,j⟩
def Wy(c A B:Prop):Prop:=(c->A)/\(¬c->B)
def OQ(B:Nat)(l:XU)(w:kV)(h:mI w B l)(f:l.length<240):
  D_ 252 #[p_ B] w fun ee w'=>ee=.panicked (mG 1)/\w.grownBy w' (some B):=by
 have d:=h.lt;have E:w.heap.size≠B:=by omega
 have b:=ll (h.alloc (.cells zE_ 127));have a:=ll (lY (mq w (some B)) (.cells zE_ 127));have c:Hid ((w.alloc (.cells zE_ 127)).heap[w.heap.size]?=some (.cells zE_ 127 (0,0))):=ah w _;clear h;go_enter func252,ntmps252;go_wp2_with fail;refine on_ (Bh _ _ _ _ b (by omega)) fun g A=>?_;exact⟨rfl,rfl,by rw[A];exact lq a⟩
def an7(l:XU)(host file:XB)(B:Nat)(w:kV)(val:Value->Value)(e:Ending)(w':kV):Prop:=
 w.grownBy w' (some B)/\(if uj l host.data.toList file.data.toList=0 then ∃ao cp,e=.returned (val (.slice ao (qc l host.data.toList file.data.toList).length cp))/\w'.ownsRow w.heap.size 151 2 (.slice ao (qc l host.data.toList file.data.toList).length cp) (qc l host.data.toList file.data.toList).length (lQ (qc l host.data.toList file.data.toList))else e=.panicked (mG (uj l host.data.toList file.data.toList)))
def XN{u:kV}{g:Nat}{t:TypeId}{c d f i k l m n o p a b:Value}(h:u.heap[g]?=some (.cells #[c,d,f,i,k,l,m,n,o,p,a,b] t (0,0))):u.cell? (a_ g 0)=some c/\u.cell? (a_ g 1)=some d/\u.cell? (a_ g 2)=some f/\u.cell? (a_ g 3)=some i/\u.cell? (a_ g 4)=some k/\u.cell? (a_ g 5)=some l/\u.cell? (a_ g 6)=some m/\u.cell? (a_ g 7)=some n/\u.cell? (a_ g 8)=some o/\u.cell? (a_ g 9)=some p/\u.cell? (a_ g 10)=some a/\u.cell? (a_ g 11)=some b:=by
 have q:=fun j=>af u g j _ _ _ h;exact⟨q 0,q 1,q 2,q 3,q 4,q 5,q 6,q 7,q 8,q 9,q 10,q 11⟩
def Ic{B:Nat}{X a1 a2 a3 a4 a5 a6 a7 a8 a9 a10 a11 f i j k l n o p s t y z a24 a25 a26 a27 C D F G H L:UInt8}{m m1 m2 m3 R:XU}{s1 sh sf sc:XB}{w:kV}(h:mI w B (X::a1::a2::a3::a4::a5::a6::a7::a8::a9::a10::a11::f::i::j::k::l::n::o::p::s::t::y::z::a24::a25::a26::a27::C::D::F::G::H::L::m))(hs:(X::a1::a2::a3::a4::a5::a6::a7::a8::a9::a10::a11::f::i::j::k::l::n::o::p::s::t::y::z::a24::a25::a26::a27::C::D::F::G::H::L::m).length<=1048576)
  (V:m=s1.data.toList++m1/\m1=sh.data.toList++m2/\m2=sf.data.toList++m3/\m3=sc.data.toList++R/\s1.size=10/\sh.size=64/\sf.size=128/\sc.size=4) {rp:Bool} (b3:((X.toNat:Int)==2)=rp) {c:Prop} (hc:c↔((X.toNat:Int)==1||(X.toNat:Int)==2)=true/\(a1=1/\a2=6)/\sc.data.toList=[99,130,83,99]):
  D_ 252 #[p_ B] w fun ee w'=>Wy c (an7 R sh sf B w (fun v=>.agg #[.bool rp,E3 (w4 a4 a5 a6 a7),E3 (w4 f i j k),E3 (w4 l n o p),E3 (w4 s t y z),E8 C.toNat,E8 D.toNat,E8 F.toNat,E8 G.toNat,E8 H.toNat,E8 L.toNat,v]) ee w') (ee=.panicked (mG 2)/\w.grownBy w' (some B)):=by
 have hB:=h.lt;have b0:w.heap.size≠B:=by omega
 have b2:w.heap.size+1≠B:=by omega
 have ls:=lens V.1 V.2.1 V.2.2.1 V.2.2.2.1 V.2.2.2.2.1 V.2.2.2.2.2.1 V.2.2.2.2.2.2.1 V.2.2.2.2.2.2.2;have A:Hid ((m.length=206+R.length/\m1.length=196+R.length/\m2.length=132+R.length/\m3.length=4+R.length)/\R.length<=1048400):=ll ⟨ls,by simp only[ax]at hs;omega⟩;have T:=ll V;have HC:=ll hc;have H0:=ll (h.alloc (.cells zE_ 127));have S:=ll (VS.start 127 zE_ h);clear h hs V ls hc;go_enter func252,ntmps252;go_wp2_with fail;refine on_ (Be _ _ _ _ H0 (by have:=lq A;simp only[ax];omega)) fun wz E=>?_;rw[E];clear E wz H0
 cases hop:((X.toNat:Int)==1||(X.toNat:Int)==2)with
 |false=>
  have T1:=ll (aA4 B X _ _ S.qW (by have:=lq A;simp only[ax,maxLen];omega) hop);go_wp2_with fail;refine on_ T1 fun wz gz=>?_;exact⟨rfl,⟨fun q=>(by have q:=(HC.1 q).1;rw[hop]at q;cases q),fun _=>⟨rfl,lD S.grown gz⟩⟩⟩
 |true=>
 have T1:=ll (aw8 B X _ _ S.qW (by have:=lq A;simp only[ax,maxLen];omega) hop);have Y:=ll hop;clear hop;go_wp2_with fail;refine on_ T1 ?_;rintro w2 ⟨r,g⟩;replace S:=ll (S.next r g)
 clear r g T1;obtain⟨a,d⟩:=S.kr;replace S:=ll (S.seq 0 (.bool rp) (by simp only[aj,aA,ay];rfl))
 go_wp2_with fail;refine on_ (WH _ _ _ _ _ S.qW (by have:=lq A;simp only[ax,maxLen];omega)) ?_;rintro w3 ⟨r,g⟩;replace S:=ll (S.next r g)
 clear r g a d
 by_cases hcd:a1=1/\a2=6
 case neg=>
  go_wp2_with fail;refine on_ (nk _ (by simpa using hcd) _ _) fun wz E=>?_;exact⟨rfl,⟨fun q=>absurd (HC.1 q).2.1 hcd,fun _=>⟨rfl,by rw[E];exact S.grown⟩⟩⟩
 obtain⟨rfl,rfl⟩:=hcd;go_wp2_with fail;refine on_ (ol _ (by simp) _ _) fun wz E=>?_;rw[E];clear E wz;go_wp2_with fail;refine on_ (qy _ _ _ _ S.qW (by have:=lq A;simp only[ax,maxLen];omega)) ?_;rintro b5 ⟨r,g⟩;replace S:=ll (S.next r g)
 clear r g;obtain⟨a,d⟩:=S.kr;go_wp2_with fail;refine on_ (Y_ _ _ _ _ _ _ _ S.qW (by have:=lq A;simp only[ax,maxLen];omega)) ?_;rintro w5 ⟨r,g⟩;replace S:=ll (S.next r g)
 clear r g a d;obtain⟨a,d⟩:=S.kr;replace S:=ll (S.seq 1 (E3 (w4 a4 a5 a6 a7)) (by simp only[aj,aA,ay];rfl))
 go_wp2_with fail;refine on_ (Y_ _ _ _ _ _ _ _ S.qW (by have:=lq A;simp only[ax,maxLen];omega)) ?_;rintro w6 ⟨r,g⟩;replace S:=ll (S.next r g)
 clear r g a d;obtain⟨a,d⟩:=S.kr;go_wp2_with fail;refine on_ (yP _ _ _ _ _ _ _ S.qW (by have:=lq A;simp only[ax,maxLen];omega)) ?_;rintro w7 ⟨r,g⟩;replace S:=ll (S.next r g)
 clear r g a d;obtain⟨a,d⟩:=S.kr;replace S:=ll (S.seq 2 (E3 (w4 f i j k)) (by simp only[aj,aA,ay];rfl))
 go_wp2_with fail;refine on_ (yP _ _ _ _ _ _ _ S.qW (by have:=lq A;simp only[ax,maxLen];omega)) ?_;rintro w8 ⟨r,g⟩;replace S:=ll (S.next r g)
 clear r g a d;obtain⟨a,d⟩:=S.kr;replace S:=ll (S.seq 3 (E3 (w4 l n o p)) (by simp only[aj,aA,ay];rfl))
 go_wp2_with fail;refine on_ (yP _ _ _ _ _ _ _ S.qW (by have:=lq A;simp only[ax,maxLen];omega)) ?_;rintro w9 ⟨r,g⟩;replace S:=ll (S.next r g)
 clear r g a d;obtain⟨a,d⟩:=S.kr;replace S:=ll (S.seq 4 (E3 (w4 s t y z)) (by simp only[aj,aA,ay];rfl))
 go_wp2_with fail;refine on_ (yP _ _ _ _ _ _ _ S.qW (by have:=lq A;simp only[ax,maxLen];omega)) ?_;rintro w10 ⟨r,g⟩;replace S:=ll (S.next r g)
 clear r g a d;obtain⟨a,d⟩:=S.kr;go_wp2_with fail;refine on_ (BI _ _ _ _ _ _ _ _ _ S.qW (by have:=lq A;simp only[ax,maxLen];omega)) ?_;rintro w11 ⟨r,g⟩;replace S:=ll (S.next r g)
 clear r g a d;obtain⟨a,d⟩:=S.kr;replace S:=ll ((((((S.seq 5 (E8 C.toNat) (by simp only[aj,aA,ay];rfl)).seq 6 (E8 D.toNat) (by simp only[aj,aA,ay];rfl)).seq 7 (E8 F.toNat) (by simp only[aj,aA,ay];rfl)).seq 8 (E8 G.toNat) (by simp only[aj,aA,ay];rfl)).seq 9 (E8 H.toNat) (by simp only[aj,aA,ay];rfl)).seq 10 (E8 L.toNat) (by simp only[aj,aA,ay];rfl))
 go_wp2_with fail;refine on_ (BU _ 10 s1 m1 m _ S.qW T.1 T.2.2.2.2.1 (by have:=lq A;simp only[ax,maxLen];omega)) ?_;rintro w12 ⟨r,g⟩;replace S:=ll (S.next r g)
 clear r g a d;obtain⟨a,d⟩:=S.kr;go_wp2_with fail;refine on_ (BU _ 64 sh m2 m1 _ S.qW T.2.1 T.2.2.2.2.2.1 (by have:=lq A;simp only[ax,maxLen];omega)) ?_;rintro w13 ⟨r,g⟩;replace S:=ll (S.next r g)
 clear r g a d;obtain⟨a,d⟩:=S.kr;go_wp2_with fail;refine on_ (BU _ 128 sf m3 m2 _ S.qW T.2.2.1 T.2.2.2.2.2.2.1 (by have:=lq A;simp only[ax,maxLen];omega)) ?_;rintro w14 ⟨r,g⟩;replace S:=ll (S.next r g)
 clear r g a d;obtain⟨a,d⟩:=S.kr;go_wp2_with fail;refine on_ (BU _ 4 sc R m3 _ S.qW T.2.2.2.1 T.2.2.2.2.2.2.2 (by have:=lq A;simp only[ax,maxLen];omega)) ?_;rintro w15 ⟨r,g⟩;replace S:=ll (S.next r g)
 clear r g a d;obtain⟨a,d⟩:=S.kr
 by_cases Z:sc.data.toList=[99,130,83,99]
 case neg=>
  go_wp2_with fail;refine on_ (nk _ (by have q:=Z;rw[<-bi]at q;simpa using q) _ _) fun wz E=>?_;exact⟨rfl,⟨fun q=>absurd (HC.1 q).2.2 Z,fun _=>⟨rfl,by rw[E];exact S.grown⟩⟩⟩
 have M:=ll Z;clear Z;go_wp2_with fail;refine on_ (ol _ (by have q:=lq M;rw[<-bi]at q;simpa using q) _ _) fun wz E=>?_;rw[E];clear E wz a d;have W:=ll (Jn B R sh sf w15 S.qW (by have:=lq A;omega) (by have:=T.2.2.2.2.2.1;omega) (by have:=T.2.2.2.2.2.2.1;omega));have b4:w.heap.size+2<=w15.heap.size:=by have:=aC S.var;omega
 go_wp2_with fail;refine W.mono ?_;rintro ee wx ⟨gx,I⟩
 by_cases N:uj R sh.data.toList sf.data.toList=0
 ·rw[aB N]at I
  obtain⟨v,rfl,J⟩:=I;obtain⟨ao,cp,hv⟩:=lH J;have hr:=(gx.block _ (aC S.res) (fun q=>b0 (by simpa using q))).trans S.res;have he:=(gx.block _ (aC S.var) (fun q=>b2 (by simpa using q))).trans S.var;obtain⟨c0,c1,c2,c3,c4,c5,c6,c7,c8,c9,c10,c11⟩:=XN he;have ff:=nQ he;obtain⟨d0,d1,d2,d3,d4,d5,d6,d7,d8,d9,d10,d11⟩:=XN hr;have kd:=nQ hr;have GX:=ll (lD S.grown gx);have OW:=ll J;have HK0:=ll N;obtain⟨LN,U⟩:=ex_ ((qc R sh.data.toList sf.data.toList).length);rw[<-U]at hv;subst hv;have O:=ll U;clear J gx hr he N U W;go_wp2;refine aQ (v:=.agg (rE rp (w4 a4 a5 a6 a7) (w4 f i j k) (w4 l n o p) (w4 s t y z) C.toNat D.toNat F.toNat G.toNat H.toNat L.toNat ao LN cp)) (by simp[results,results252,go_sem,d0,d1,d2,d3,d4,d5,d6,d7,d8,d9,d10,d11]) rfl ⟨fun _=>⟨?_,?_⟩,fun q=>absurd (HC.2 ⟨Y,by simp,M⟩) q⟩
  ·iterate 13 refine xA ?_ (by first|exact ae _|exact Nat.le_succ _) _
   exact GX
  rw[aB (lq HK0)];refine⟨ao,cp,?_,?_⟩
  ·rw[<-lq O]
  rw[<-lq O];refine vU (b:=w15.heap.size) ?_ (by omega);iterate 13 refine dQ ?_ (by first|(show w.heap.size<_;omega)|(show w.heap.size+1<_;omega)) _
  have q:=lq OW;rw[<-lq O]at q;exact q
 rw[az N]at I;subst I;refine⟨rfl,?_⟩;refine⟨fun _=>⟨lD S.grown gx,?_⟩,fun q=>absurd (HC.2 ⟨Y,by simp,M⟩) q⟩;rw[az N]
end Dh
namespace DhR
open Bs Rd
open mR (nV rV blocks lu nQ lG uk qX pX xR)
def JI(n:Nat)(xs:XL)(w:kV)(mk:XO->Nat->Value)(ee:Ending)(w':kV):Prop:=
 ∃sa sc,ee=.returned (mk sa sc)/\w'.ownsRow w.heap.size 151 2 (.slice sa n sc) n xs/\y_ w w'
def IQ{w:kV}{g:Nat}{t:TypeId}(p r s v y z A B C D c d f v1 v2 i j k l m n o a b:Value)(h:w.heap[g]?=some (.cells #[p,r,s,v,y,z,A,B,C,D,c,d] t (0,0))):
  ((((((((((((w.setCell (a_ g 0) f).setCell (a_ g 1) v1).setCell (a_ g 2) v2).setCell (a_ g 3) i).setCell (a_ g 4) j).setCell (a_ g 5) k).setCell (a_ g 6) l).setCell (a_ g 7) m).setCell (a_ g 8) n).setCell (a_ g 9) o).setCell (a_ g 10) a).setCell (a_ g 11) b).heap[g]?=some (.cells #[f,v1,v2,i,j,k,l,m,n,o,a,b] t (0,0)):=by
 have q:=lG (lG (lG (lG (lG (lG (lG (lG (lG (lG (lG (lG h 0 f) 1 v1) 2 v2) 3 i) 4 j) 5 k) 6 l) 7 m) 8 n) 9 o) 10 a) 11 b;simpa only[aj,aA,ay]using q
end DhR
namespace Ip
open Bs Rb Wt xJ
def pE(id nS c a d:Int)(load:XB)(w:kV)(k:0<=id/\id<=65535)(o:0<=nS/\nS<=255)(m:0<=c/\c<=255)(j:0<=a/\a<=4294967295)(l:0<=d/\d<=4294967295)(n:load.size<=262144):
  C_ 137 #[.agg (rI id nS c a d load)] w (.tuple #[.string (LM id nS c a d load),E4 (PI nS load)]) (y_ w):=by
 by_cases b:nS=0
 ·have f:LM id nS c a d load=⟨#[]⟩:=by simp[LM,b]
  have g:PI nS load=2:=by simp[PI,b]
  rw[f,g];subst b;go_enter func137,ntmps137;go_wp2;go_ret2;exact⟨rfl,(aK _ _).alloc (ae _) _⟩
 have E:(nS==0)=false:=by simpa using b
 by_cases i:load.size<=1480
 ·have f:LM id nS c a d load=⟨(Zv id nS c a d load).toArray⟩:=by simp[LM,b,i]
  have g:PI nS load=0:=by simp[PI,b,i]
  rw[f,g];exact F9 id nS c a d load w k (by omega) m j l i
 have f:LM id nS c a d load=⟨#[]⟩:=by simp[LM,b,i]
 have g:PI nS load=7:=by simp[PI,b,i]
 rw[f,g];have A:(1480:Int)<(load.size:Int):=by omega
 clear f g i b;go_enter func137,ntmps137;go_wp2;go_ret2;exact⟨rfl,(aK _ _).alloc (ae _) _⟩
end Ip
end Go.Proofs.YtnbaacgmlbhhcaaGreatDoor
