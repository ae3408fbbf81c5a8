import Derived.Test.YtnbaacgmlbhhcaaGreatDoorMg05
set_option linter.all false
set_option maxHeartbeats 16000000
set_option maxRecDepth 10000
open Go.ChangeShapes Go.WideShapes Go.ChangeAt Go.RowKit
open Go renaming World → kV
open Go.RowKit renaming Below → kZ
open Go.Proofs.Tryz
namespace Go.Proofs.YtnbaacgmlbhhcaaGreatDoor
namespace Dh
open Bs Rb Wt
open xJ (FV Au mX)
open Ip (PQ)
def IM(L:XU)(n:Nat):ze ⟨L.toArray⟩ n=⟨(L++List.replicate (n-L.length) 0).toArray⟩:=by
 rw[ze,lF]
 split
 ·rename_i h
  have a:n-L.length=0:=by omega
  rw[a];simp
 exact nC L _
def Ej(u:kV)(x y:Int)(g:Nat)(a:g=u.heap.size):(u.alloc (.cells #[E8 x,E8 y] 5)).cell? (a_ g 0)=some (E8 x)/\(u.alloc (.cells #[E8 x,E8 y] 5)).cell? (a_ g 1)=some (E8 y):=by
 subst a;constructor
 ·rw[af _ u.heap.size 0 _ _ (0,0) (ah u _)];rfl
 rw[af _ u.heap.size 1 _ _ (0,0) (ah u _)];rfl
def LF(u:kV)(x y:Int)(a:0<=x/\x<=255)(b:0<=y/\y<=255):(convert 55 9 (.slice (some (n_ u 0)) 2 2)).run prog (u.alloc (.cells #[E8 x,E8 y] 5))=.ok (.string ⟨#[lV x,lV y]⟩) (u.alloc (.cells #[E8 x,E8 y] 5)):=
 PQ _ _ x y a b (Ej u x y _ rfl).1 (Ej u x y _ rfl).2
def ZM(w:kV):C_ 91 #[E3 0] w (.string ⟨#[0,0,0,0]⟩) (y_ w):=by
 refine on_ (Au 0 w (by omega) (by omega)) fun a h=>?_;exact⟨rfl,h⟩
def RA(u:kV)(x y:Int)(a:0<=x/\x<=255)(b:0<=y/\y<=255):(convert 55 9 (.slice (some (n_ u 0)) 2 2)).run prog (u.alloc (.cells #[E8 x,E8 y] 5)).drew=.ok (.string ⟨#[lV x,lV y]⟩) (u.alloc (.cells #[E8 x,E8 y] 5)).drew:=
 PQ _ _ x y a b (Ej u x y _ rfl).1 (Ej u x y _ rfl).2
def VN(X A:XU)(t z:XB)(c:t=⟨X.toArray⟩)(a:X++ [255]=A)(f:z=⟨(Bf A).toArray⟩)(g:X.length<=1000000000)(u:kV):
  C_ 135 #[.string (t++⟨#[255]⟩),E4 300] u (.string z) (y_ u):=by
 have b:t++⟨#[255]⟩=⟨A.toArray⟩:=by rw[c,<-a];exact nC X [255]
 have E:A.length<=1000000001:=by rw[<-a,au,ax,bn];omega
 rw[b];refine on_ (FN ⟨A.toArray⟩ 300 u (by rw[lF];omega) (by omega)) fun w' d=>?_;exact⟨by rw[IM,f,Bf],d⟩
def UR(op k lM j i g:Int)(a b c d e f:UInt8)(p q r:XB)(m:p=⟨#[lV op,1,6,0]⟩)(n:q=⟨(mf k).toArray⟩)(o:r=⟨(Ca j 4).toArray⟩):
  ze (p++(⟨#[lV (lM/256/256/256),lV (lM/256/256),lV (lM/256),lV lM]⟩++⟨#[0,0]⟩)++q++r++⟨#[lV (i/256/256/256),lV (i/256/256),lV (i/256),lV i]⟩++⟨#[lV (g/256/256/256),lV (g/256/256),lV (g/256),lV g]⟩++⟨#[0,0,0,0]⟩++⟨#[a,b,c,d,e,f]⟩) 236++⟨#[99,130,83,99]⟩=⟨(rY op k lM j i g [a,b,c,d,e,f]).toArray⟩:=by
 have l:p++(⟨#[lV (lM/256/256/256),lV (lM/256/256),lV (lM/256),lV lM]⟩++⟨#[0,0]⟩)++q++r++⟨#[lV (i/256/256/256),lV (i/256/256),lV (i/256),lV i]⟩++⟨#[lV (g/256/256/256),lV (g/256/256),lV (g/256),lV g]⟩++⟨#[0,0,0,0]⟩++⟨#[a,b,c,d,e,f]⟩=⟨(Ze op k lM j i g [a,b,c,d,e,f]).toArray⟩:=by
  rw[m,n,o,Ze];simp only[mi,bX,List.flatMap_nil,<-FV];apply bg;apply bL;simp[bO,Ca,mf,nJ];decide
 rw[l,IM,DI];rfl
def Ph{w u:kV}{a:XV}{t:TypeId}(h:kZ (w.alloc (.cells a t)).heap.size (w.alloc (.cells a t)) u):∀j,u.cell? (n_ w j)=a[j]?:=fun j=>by
 rw[h.cell (p:=(n_ w j)) (by simp),af _ w.heap.size j a t (0,0) (ah w _)]
def BO{W u:kV}{b n:Nat}{a:XV}(h:∀j,W.cell? (a_ b j)=a[j]?)(d:b<n)(c:kZ n W u):∀j,u.cell? (a_ b j)=a[j]?:=fun j=>by
 rw[c.cell (p:=(a_ b j)) d];exact h j
def pE(mr:Bool)(lM l r n:Int)(a b c d e f:UInt8)(sa:XO)(sc:Nat)(os:lU)(w:kV)(hx:0<=lM/\lM<=4294967295)(hc:0<=l/\l<=4294967295)(hy:0<=r/\r<=4294967295)(hn:0<=n/\n<=4294967295)(hA:At w sa os)(hl:heavy os<=2097152):
  C_ 94 #[.agg (rE mr lM l r n a.toNat b.toNat c.toNat d.toNat e.toNat f.toNat sa os.length sc)] w (.tuple #[.string (Gz mr lM l r n [a,b,c,d,e,f] os),E4 (Oj mr lM l r n [a,b,c,d,e,f] os)]) (y_ w):=by
 have e3:os.length<=heavy os:=by unfold heavy;omega
 have hh8:=Dy os;obtain⟨hx0,hx1⟩:=hx;obtain⟨hy0,hy1⟩:=hy;obtain⟨hn0,hn1⟩:=hn;obtain⟨hc0,hc1⟩:=hc;have e6:IntKind.i64.wrap lM=lM:=wrap_i64 _ (by omega) (by omega);have b7:=ll (JJ lM 4 (w.alloc (.cells (rE mr lM l r n a.toNat b.toNat c.toNat d.toNat e.toNat f.toNat sa os.length sc) 127)) hx0 (by omega) (by omega));obtain⟨o,ho⟩:∃o:UInt8,o=lV (opI mr):=⟨_,rfl⟩;obtain⟨f1,hf1⟩:∃f1:UInt8,f1=(if l=0 then 128 else 0):=⟨_,rfl⟩;obtain⟨H,hH⟩:=ex_ (rY (opI mr) (Zx l) lM l r n [a,b,c,d,e,f]);have d5:H.length=240:=by rw[hH];exact uT _ _ _ _ _ _ _ rfl
 have HJ:Hid (ze ((⟨#[o,1,6,0]⟩:XB)++(⟨#[lV (lM/256/256/256),lV (lM/256/256),lV (lM/256),lV lM]⟩++⟨#[0,0]⟩)++(⟨#[f1,0]⟩:XB)++⟨#[lV (l/256/256/256),lV (l/256/256),lV (l/256),lV l]⟩++⟨#[lV (r/256/256/256),lV (r/256/256),lV (r/256),lV r]⟩++⟨#[lV (n/256/256/256),lV (n/256/256),lV (n/256),lV n]⟩++⟨#[0,0,0,0]⟩++⟨#[a,b,c,d,e,f]⟩) 236++⟨#[99,130,83,99]⟩=⟨H.toArray⟩):=ll (by rw[hH];exact UR _ _ lM l r n a b c d e f _ _ _ (by rw[ho]) (by rw[hf1];unfold Zx;split<;>rfl) (by first|rfl|decide));have d0:Hid (H++pu os++ [255]=AU mr lM l r n [a,b,c,d,e,f] os):=ll (by rw[hH,AU]);have d9:(ze ((⟨#[o,1,6,0]⟩:XB)++(⟨#[lV (lM/256/256/256),lV (lM/256/256),lV (lM/256),lV lM]⟩++⟨#[0,0]⟩)++(⟨#[f1,0]⟩:XB)++⟨#[lV (l/256/256/256),lV (l/256/256),lV (l/256),lV l]⟩++⟨#[lV (r/256/256/256),lV (r/256/256),lV (r/256),lV r]⟩++⟨#[lV (n/256/256/256),lV (n/256/256),lV (n/256),lV n]⟩++⟨#[0,0,0,0]⟩++⟨#[a,b,c,d,e,f]⟩) 236).size+4=240:=by
  have q:=dF ByteArray.size HJ;rw[bA,lF]at q;have q2:=q.trans d5;exact q2
 have b5:=fun u=>bu (P:=prog) u (ze ((⟨#[o,1,6,0]⟩:XB)++(⟨#[lV (lM/256/256/256),lV (lM/256/256),lV (lM/256),lV lM]⟩++⟨#[0,0]⟩)++(⟨#[f1,0]⟩:XB)++⟨#[lV (l/256/256/256),lV (l/256/256),lV (l/256),lV l]⟩++⟨#[lV (r/256/256/256),lV (r/256/256),lV (r/256),lV r]⟩++⟨#[lV (n/256/256/256),lV (n/256/256),lV (n/256),lV n]⟩++⟨#[0,0,0,0]⟩++⟨#[a,b,c,d,e,f]⟩) 236) ⟨#[99,130,83,99]⟩ (by show _+4<=_;omega);have HA:=ll hA;clear hA hH d9;go_enter func94,ntmps94;refine jf (fun K hK=> ?_);go_cut [1,2,3] (fun v1 v2 v3 wc=>v1=(p_ w.heap.size)/\v2=.string ⟨#[]⟩/\v3=E4 0/\wc=w.alloc (.cells (rE mr lM l r n a.toNat b.toNat c.toNat d.toNat e.toNat f.toNat sa os.length sc) 127))
 case first=>go_wp2;go_meet;exact⟨rfl,rfl,rfl,rfl⟩
 obtain⟨rfl,rfl,rfl,rfl⟩:=hcut;refine hK _ _ ?_;clear hK K;refine jf (fun K hK=> ?_);go_cut [4] (fun v4 wc=>v4=.string ⟨#[1,1,6,0]⟩/\wc=w.alloc (.cells (rE mr lM l r n a.toNat b.toNat c.toNat d.toNat e.toNat f.toNat sa os.length sc) 127))
 case first=>go_wp2;go_meet;exact⟨rfl,rfl⟩
 obtain⟨rfl,rfl⟩:=hcut;refine hK _ _ ?_;clear hK K;refine jf (fun K hK=> ?_);go_cut [4] (fun v4 wc=>v4=.string ⟨#[o,1,6,0]⟩/\wc=w.alloc (.cells (rE mr lM l r n a.toNat b.toNat c.toNat d.toNat e.toNat f.toNat sa os.length sc) 127))
 case first=>cases mr<;>(go_wp2;go_meet;exact⟨by rw[ho];rfl,rfl⟩)
 obtain⟨rfl,rfl⟩:=hcut;refine hK _ _ ?_;clear hK K ho;refine jf (fun K hK=> ?_);go_cut [4] (fun v4 wc=>v4=.string (⟨#[o,1,6,0]⟩++(⟨#[lV (lM/256/256/256),lV (lM/256/256),lV (lM/256),lV lM]⟩++⟨#[0,0]⟩))/\Hid (kZ (w.alloc (.cells (rE mr lM l r n a.toNat b.toNat c.toNat d.toNat e.toNat f.toNat sa os.length sc) 127)).heap.size (w.alloc (.cells (rE mr lM l r n a.toNat b.toNat c.toNat d.toNat e.toNat f.toNat sa os.length sc) 127)) wc));case first=>
  go_wp2_with fail;refine on_ b7 fun w1 v=>?_;simp only[Ca,iA,iY];go_wp2;go_meet;exact⟨rfl,ll v⟩
 obtain⟨rfl,V⟩:=hcut;rename kV=>W1;refine hK _ _ ?_;clear hK K b7;have b2:=Ph V;have e7:w.heap.size+1<=W1.heap.size:=by have:=V.size;simpa using this
 have HW1:Hid (y_ w W1):=ll (b1_.trans (V.mono (by simp)));clear V;have J:=ll b2;refine jf (fun K hK=> ?_);go_cut [4] (fun v4 wc=>v4=.string (⟨#[o,1,6,0]⟩++(⟨#[lV (lM/256/256/256),lV (lM/256/256),lV (lM/256),lV lM]⟩++⟨#[0,0]⟩)++⟨#[f1,0]⟩)/\W1=wc);case first=>
  by_cases hz:l=0
  ·have e1:(l==0)=true:=by simpa using hz
   go_wp2;go_meet;exact⟨by rw[hf1,aB hz],rfl⟩
  have e1:(l==0)=false:=by simpa using hz
  go_wp2;go_meet;exact⟨by rw[hf1,az hz],rfl⟩
 obtain⟨rfl,rfl⟩:=hcut;refine hK _ _ ?_;clear hK K hf1;have b8:=ll (show((⟨#[o,1,6,0]⟩:XB)++(⟨#[lV (lM/256/256/256),lV (lM/256/256),lV (lM/256),lV lM]⟩++⟨#[0,0]⟩)++(⟨#[f1,0]⟩:XB)++⟨#[lV (l/256/256/256),lV (l/256/256),lV (l/256),lV l]⟩++⟨#[lV (r/256/256/256),lV (r/256/256),lV (r/256),lV r]⟩++⟨#[lV (n/256/256/256),lV (n/256/256),lV (n/256),lV n]⟩++⟨#[0,0,0,0]⟩++⟨#[a,b,c,d,e,f]⟩).size<=1099511627776 by show 34<=_;omega);have j:y_ W1 W1:=aK _ _;have E:=b2;clear b2;go_wp2;go_cut [4] (fun s4 wc=>s4=.string ⟨H.toArray⟩/\Hid (y_ W1 wc));case first=>
  go_region_held3 (fun u=>u.cell? (n_ w 2)=some (E3 l)/\u.cell? (n_ w 3)=some (E3 r)/\u.cell? (n_ w 4)=some (E3 n)/\u.cell? (n_ w 5)=some (E8 a.toNat)/\u.cell? (n_ w 6)=some (E8 b.toNat)/\u.cell? (n_ w 7)=some (E8 c.toNat)/\u.cell? (n_ w 8)=some (E8 d.toNat)/\u.cell? (n_ w 9)=some (E8 e.toNat)/\u.cell? (n_ w 10)=some (E8 f.toNat)) (go_keep)
   (first|(go_at_call 91;refine(ZM _).mono ?_;rintro ee u1 ⟨rfl,v⟩;have j:y_ W1 u1:=(by first|exact j.trans (v.mono j.size)|exact j.drew.trans (v.mono j.size));have E:=BO J (by omega) j;have W:=j.size;clear v)|(go_at_call 91;refine(Au _ _ (by omega) (by omega)).mono ?_;rintro ee u1 ⟨rfl,v⟩;have j:y_ W1 u1:=(by first|exact j.trans (v.mono j.size)|exact j.drew.trans (v.mono j.size));have E:=BO J (by omega) j;have W:=j.size;clear v)|(go_at_call 132;refine(Jg _ _ _ _ _ _ _).mono ?_;rintro ee u1 ⟨rfl,v⟩;have j:y_ W1 u1:=(by first|exact j.trans (v.mono j.size)|exact j.drew.trans (v.mono j.size));have E:=BO J (by omega) j;have W:=j.size;clear v)|(go_at_call 135;refine(FN _ 236 _ b8 (by omega)).mono ?_;rintro ee u1 ⟨rfl,v⟩;have j:y_ W1 u1:=(by first|exact j.trans (v.mono j.size)|exact j.drew.trans (v.mono j.size));have E:=BO J (by omega) j;have W:=j.size;clear v))
  go_wp2;go_meet;exact⟨dF Value.string HJ,ll j⟩
 obtain⟨rfl,a6⟩:=hcut;rename kV=>wc;clear j E;have c11:wc.cell? (n_ w 11)=some (.slice sa os.length sc):=by
  rw[a6.cell (p:=(n_ w 11)) (by show w.heap.size<_;omega),J 11];rfl
 have d3:Hid (y_ w wc):=ll (HW1.trans (a6.mono (by omega)));clear a6 J b8 HJ HW1 b5;go_wp2;clear c11;go_loopw [4,48] (fun s4 i wr=>∃k:Nat,k<=os.length/\i=E4 k/\s4=.string ⟨(H++pu (os.take k)).toArray⟩/\Hid (bad (os.take k)=false)/\Hid (y_ w wr)) (fun _ i _=>os.length-(intOf i).toNat)
 case atStart=>exact⟨0,aR _,rfl,by simp[pu],ll rfl,d3⟩
 obtain⟨k,hk,rfl,rfl,b6,T⟩:=hrel;rename kV=>wr;have d8:=F3 os k;obtain⟨X,Z⟩:∃X,H++pu (os.take k)=X:=⟨_,rfl⟩;have e4:X.length<=4195776:=by rw[<-Z,au];omega
 by_cases R:k<os.length
 ·obtain⟨ad,rfl,c0,c1⟩:=HA.below T (ae _) k R
  obtain⟨B,od,O⟩:∃x y,os[k]=(x,y):=⟨_,_,rfl⟩;rw[O]at c0 c1;simp only at c0 c1;have hd:od.length<=2097152:=by have:=Cx os k R;rw[O]at this;simp only at this;omega
  have C:=Mk R b6;have M:= @V5 os k R;rw[O]at C M;have HT:=ll (FX os k R);rw[O]at HT;rw[Z];have HX:=ll Z;have hc8:=B.toNat_lt;clear O Z
  by_cases hb:J2 B=true
  ·have b0:=M hb
   have G:Hid (Oj mr lM l r n [a,b,c,d,e,f] os=2):=ll (by rw[Oj,aB b0]);have L:Hid (Gz mr lM l r n [a,b,c,d,e,f] os=⟨#[]⟩):=ll (by rw[Gz,aB b0]);have a9:B.toNat=0∨B.toNat=52∨B.toNat=255:=by simpa[J2,or_assoc]using hb
   clear hb M C b0
   rcases a9 with e0|e0|e0
   all_goals
    rw[e0]at c0;clear e0;go_wp2;go_ret2;exact⟨by rw[lq G,lq L];rfl,T.alloc T.size _⟩
  have HB2:=ll (C (by simpa using hb));have a9: ¬B.toNat=0/\ ¬B.toNat=52/\ ¬B.toNat=255:=by simpa[J2,and_assoc]using hb
  obtain⟨g0,g1,g2⟩:=a9;have q0:(((B.toNat:Nat):Int)==0)=false:=by simp;omega
  have q1:(((B.toNat:Nat):Int)==52)=false:=by simp;omega
  have q2:(((B.toNat:Nat):Int)==255)=false:=by simp;omega
  clear hb M C g0 g1 g2;obtain⟨Wi,a2⟩:=ex_ (wr.alloc (.cells #[E8 B.toNat,.string ⟨od.toArray⟩] 151));have c9:∀wi,kZ (wr.heap.size+1) Wi wi->wi.cell? (n_ wr 0)=some (E8 B.toNat):=fun wi d6=>by
   rw[d6.cell (p:=(n_ wr 0)) (by show wr.heap.size<_;omega),a2,af _ wr.heap.size 0 _ _ (0,0) (ah wr _)];rfl
  have d4:=ll c9;have a0:Hid (y_ w Wi/\Wi.heap.size=wr.heap.size+1):=ll (by rw[a2];exact⟨T.alloc T.size _,by simp⟩);have b9:=ll a2;clear c9 a2;go_wp2;rw[<-lq b9];clear b9 c0 c1 q0 q1 q2;go_loopg [4,7] od.length (fun g s4 s7 wi=>∃m A:XU,m.length=g/\g<=od.length/\s7=.string ⟨m.toArray⟩/\s4=.string ⟨(X++A).toArray⟩/\Hid (A++BX B m=BX B od)/\Hid (A.length<=2*(od.length-g))/\Hid (kZ (wr.heap.size+1) Wi wi))
  case atStart=>exact⟨od,[],rfl,ae _,rfl,by simp,ll rfl,ll (by simp),ll (aK _ _)⟩
  obtain⟨m,A,hm,hg,rfl,rfl,H2,H3,H4⟩:=hrel;rename kV=>wi;have o0:=d4 _ H4;have c8:=lq H3;obtain⟨s,hS⟩:∃s:XB,s=⟨m.toArray⟩:=⟨_,rfl⟩;have b4:s.size=m.length:=by rw[hS];exact lF m
  obtain⟨t,F⟩:∃t:XB,t=⟨(X++A).toArray⟩:=⟨_,rfl⟩;have U:t.size<=8390080:=by rw[F,lF,au];omega
  by_cases hlt2:255<m.length
  ·have b3:(255:Int)<(s.size:Int):=by omega
   have hs1:s.size<=9223372036854775807:=by omega
   have d7:(s.extract 0 255).size=255:=by rw[dZ];omega
   have d2:=LF wi B.toNat 255 (by omega) (by omega);have e2:=RA wi B.toNat 255 (by omega) (by omega);have a8:=fun u=>bu (P:=prog) u ⟨#[lV (B.toNat:Int),lV 255]⟩ (s.extract 0 255) (by show 2+_<=_;omega);have d1:=fun u=>bu (P:=prog) u t (⟨#[lV (B.toNat:Int),lV 255]⟩++s.extract 0 255) (by rw[bA];show _+(2+_)<=_;omega);have HD:Hid (s.extract 255 s.size=⟨(m.drop 255).toArray⟩):=ll (by rw[hS];exact uq m 255);have HE:Hid (t++(⟨#[lV (B.toNat:Int),lV 255]⟩++s.extract 0 255)=⟨(X++(A++(B::255::m.take 255))).toArray⟩):=ll (by
    rw[F,hS,qj,JE]
    apply bg
    apply bL
    simp[bO]
    decide)
   have HG:=ll hm;have a7:=ll hlt2;rw[<-hS,<-F];clear hS F b4 U hm c8 hlt2 d7;go_wp2;go_region
   all_goals go_wp2
   all_goals go_roundg (gk-255)
   all_goals first
    |(have:=lq HG;have:=lq a7;omega)
    |(refine⟨m.drop 255,A++(B::255::m.take 255),by have:=lq HG;rw[bz];omega,by omega,dF Value.string HD,dF Value.string HE,ll ?_,ll ?_,ll (by first|exact(H4.alloc (by have q:=H4.size;rw[a0.2]at q;exact q) _).drew|exact H4.drew.alloc (by have q:=H4.size;rw[a0.2]at q;exact q) _)⟩
      ·rw[<-lq H2,CP B m a7];simp
      have:=lq H3
      have:=lq HG
      have:=lq a7
      rw[au,ax,ax,aX]
      omega)
  have b3: ¬(255:Int)<(s.size:Int):=by omega
  have e5:IntKind.u8.wrap (s.size:Int)=(s.size:Int):=by rw[gQ];omega
  have d2:=LF wi B.toNat s.size (by omega) (by omega);have a8:=fun u=>bu (P:=prog) u ⟨#[lV (B.toNat:Int),lV (s.size:Int)]⟩ s (by show 2+_<=_;omega);have d1:=fun u=>bu (P:=prog) u t (⟨#[lV (B.toNat:Int),lV (s.size:Int)]⟩++s) (by rw[bA];show _+(2+_)<=_;omega);have HE:Hid (t++(⟨#[lV (B.toNat:Int),lV (s.size:Int)]⟩++s)=⟨(H++pu (os.take (k+1))).toArray⟩):=ll (by
   rw[lq HT,<-bY,lq HX,<-lq H2,Ao B m hlt2,b4,F,hS,JE,QA]
   apply bg
   apply bL
   simp[bO])
  rw[<-hS,<-F];clear hS F b4 U hm c8 hlt2;go_wp2;go_roundw
  case rel=>exact⟨k+1,by omega,by go_num,dF Value.string HE,HB2,ll (a0.1.trans ((H4.alloc (by have q:=H4.size;rw[a0.2]at q;exact q) _).mono (by have:=T.size;omega)))⟩
  simp[intOf];omega
 have e0:k=os.length:=by omega
 subst e0;rw[bJ]at Z d8;have I:=lq b6;rw[bJ]at I ⊢;have D:X++ [255]=AU mr lM l r n [a,b,c,d,e,f] os:=by rw[<-Z];exact d0
 obtain⟨t,F⟩:∃t:XB,t=⟨X.toArray⟩:=⟨_,rfl⟩;have U:t.size=X.length:=by rw[F];exact lF X
 have a8:=fun u=>bu (P:=prog) u t ⟨#[255]⟩ (by show _+1<=_;omega);obtain⟨z,hZ⟩:∃z:XB,z=⟨(Bf (AU mr lM l r n [a,b,c,d,e,f] os)).toArray⟩:=⟨_,rfl⟩;have HZC:Hid (∀u,C_ 135 #[.string (t++⟨#[255]⟩),E4 300] u (.string z) (y_ u)):=ll (fun u=>VN X _ t z F D hZ (by omega) u);have a4:(1472<z.size)=(1472<(AU mr lM l r n [a,b,c,d,e,f] os).length):=by rw[hZ,lF,xZ]
 have HZ:=ll hZ;rw[Z,<-F]
 by_cases hbig:1472<(AU mr lM l r n [a,b,c,d,e,f] os).length
 ·have Y:1472<z.size:=by rw[a4];exact hbig
  have b3:(1472:Int)<(z.size:Int):=by omega
  have G:Hid (Oj mr lM l r n [a,b,c,d,e,f] os=7):=ll (by rw[Oj,I,az (by decide),aB hbig]);have L:Hid (Gz mr lM l r n [a,b,c,d,e,f] os=⟨#[]⟩):=ll (by rw[Gz,I,az (by decide),aB hbig]);clear Z F hZ a4 hbig D Y U I;go_wp2_with fail;refine on_ (HZC _) fun w9 N=>?_;have HB9:=ll N;clear N;go_wp2;go_ret2;exact⟨by rw[lq G,lq L];rfl,T.trans (HB9.mono T.size)⟩
 have Y: ¬1472<z.size:=by rw[a4];exact hbig
 have b3: ¬(1472:Int)<(z.size:Int):=by omega
 have G:Hid (Oj mr lM l r n [a,b,c,d,e,f] os=0):=ll (by rw[Oj,I,az (by decide),az hbig]);have L:Hid (Gz mr lM l r n [a,b,c,d,e,f] os=z):=ll (by rw[Gz,I,az (by decide),az hbig,hZ]);clear Z F hZ a4 hbig D Y U I;go_wp2_with fail;refine on_ (HZC _) fun w9 N=>?_;have HB9:=ll N;clear N;go_wp2;go_ret2;exact⟨by rw[lq G,lq L];rfl,T.trans (HB9.mono T.size)⟩
end Dh
end Go.Proofs.YtnbaacgmlbhhcaaGreatDoor
