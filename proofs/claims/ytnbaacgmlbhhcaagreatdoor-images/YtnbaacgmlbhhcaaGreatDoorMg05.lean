import Derived.Test.YtnbaacgmlbhhcaaGreatDoorMg12
import Derived.Test.YtnbaacgmlbhhcaaGreatDoorMg14
import Derived.Laws.MakeOwn
import Derived.Lib.UnsafeStr
set_option linter.all false
set_option maxHeartbeats 4000000
set_option maxRecDepth 10000
open Go.ChangeShapes Go.WideShapes Go.ChangeAt Go.RowKit
open Go renaming World → kV
open Go.Proofs.Tryz
namespace Go.Proofs.YtnbaacgmlbhhcaaGreatDoor
namespace Dh
open Bs
def lQ(os:lU):XL:=os.flatMap fun o=> [E8 o.1.toNat,.string ⟨o.2.toArray⟩]
def oW(os:lU):(lQ os).length=os.length*2:=by
 induction os with
 |nil=>rfl
 |cons o r ih=>simp only[lQ,bX,au,ax,bn]at ih ⊢;omega
def mV(a b:lU):lQ (a++b)=lQ a++lQ b:=by simp[lQ]
def rQ(os:lU)(i:Nat)(h:i<os.length):(lQ os)[i*2]?=some (E8 os[i].1.toNat)/\(lQ os)[i*2+1]?=some (.string ⟨os[i].2.toArray⟩):=by
 induction os generalizing i with
 |nil=>simp at h
 |cons o r ih=>
  cases i with
  |zero=>exact⟨rfl,rfl⟩
  |succ i=>
   have:=ih i (by simpa using h);simp only[lQ,bX]at this ⊢;rw[show(i+1)*2=i*2+1+1 by omega];simpa using this
def qd(os:lU):∀u ∈ lQ os,u.oneCell'=true:=by
 intro u b;simp only[lQ,List.mem_flatMap]at b;obtain⟨o,_,a⟩:=b;simp at a
 rcases a with rfl|rfl<;>rfl
def yQ(a:Addr)(n:Nat):(⟨(a.add n).block,(a.add n).off+1,none⟩:Addr)=a.add (n+1):=by
 unfold Addr.add
 by_cases h:n=0
 ·subst h;simp
 simp[h];omega
def At.cells{w:kV}{c:Addr}{os:lU}(h:At w (some c) os):∀j u,(lQ os)[j]?=some u->w.cell? (c.add j)=some u:=fun j u b=>by
 have k:=(cB.1 b).1;rw[oW]at k;obtain⟨A,e,g,i⟩:=h (j/2) (by omega);obtain rfl:=aV e;obtain⟨d,f⟩:=rQ os (j/2) (by omega)
 rcases Nat.mod_two_eq_zero_or_one j with e|e
 ·have a:j/2*2=j:=by omega
  rw[a]at g d;rw[g,<-b,d]
 have a:j/2*2+1=j:=by omega
 rw[yQ,a]at i;rw[a]at f;rw[i,<-b,f]
def At.Ck{w:kV}{a:Addr}{os:lU}(h:∀j u,(lQ os)[j]?=some u->w.cell? (a.add j)=some u):At w (some a) os:=fun i d=>by
 obtain⟨b,c⟩:=rQ os i d;exact⟨a,rfl,h _ _ b,by rw[yQ];exact h _ _ c⟩
end Dh
namespace Rd
open Bs
def QT:(prog.info? 5).map (·.size)=some 1:=by kernel_rfl
def Yo:prog.cellsOf 5=1:=by kernel_rfl
def Pw(s:XB)(w:kV)(y:s.size<=140737488355328):
  C_ 78 #[.string s] w (.string s) (y_ w):=by
 by_cases m:s.size=0
 ·have e:s=⟨#[]⟩:=bg (Array.eq_empty_of_size_eq_zero m)
  subst e;go_enter func78,ntmps78;go_wp2;go_ret;exact⟨rfl,aK _ _⟩
 obtain⟨q,o,g,i,l⟩:=bZ yC;have A:=mg s;obtain⟨M,b⟩:=ex_ (madeCells #[E8 0] s.size);have W:M.size=s.size:=by rw[b,<-aM,iM];simp
 have t:∀u:kV,(Instr.makeSlice 55 (E4 (s.size:Int)) (E4 (s.size:Int))).run prog u=.ok (.slice (some (n_ u 0)) s.size s.size) (u.alloc (.cells M 5)):=fun u=>by
  have h:=run_make (P:=prog) u 55 5 q (E8 0) bQ o g .i64 .i64 (s.size:Int) (s.size:Int) (by omega) (ib _) (by rw[l];omega) (by omega);rw[b];simpa[i,Value.cells]using h
 clear b;have J:=Lib.run_copy_row_string (P:=prog) (w.alloc (.cells M 5)) 55 9 3 5 w.heap.size 0 s.size s.size s M 5 bQ QT (ah w _) (ae _) (by omega);obtain⟨Y,c⟩:=ex_ ((M.toList.take 0++Lib.byteCells s.data.toList++M.toList.drop (0+s.size)).toArray);rw[<-c]at J;have I:Y.toList=lC s.data.toList:=by
  rw[c,iE,List.take_zero,iA,List.drop_of_length_le (by rw[aM];omega),dJ];rfl
 have r:Y.size=s.size:=by rw[<-aM,I,mP,A]
 have E:((w.alloc (.cells M 5)).setRow w.heap.size Y).heap[w.heap.size]?=some (.cells Y 5 (0,0)):=cO _ _ M _ 5 (0,0) (ah w _);have O:s.data.toList≠ []:=fun e=>m (by rw[<-A,e];rfl);have U:=Lib.run_unsafeString_row (P:=prog) ((w.alloc (.cells M 5)).setRow w.heap.size Y) 178 3 9 5 underlying178 Yo w.heap.size Y.size (by unfold World.shape?;rw[E]) s.data.toList O (by omega) (by omega)
  (fun j x a=>by
    rw[nz,af _ w.heap.size j Y 5 (0,0) E,<-bP,I]
    have n:j<s.data.toList.length:=(cB.1 a).1
    rw[EO _ j n]
    rw[aN n]at a
    simp at a ⊢
    rw[a])
 rw[A,tX]at U;clear c A;go_enter func78,ntmps78;go_wp2;go_ret;have d:y_ w (w.alloc (.cells M 5)):=(aK _ w).alloc (ae _) _;have f:Below w.heap.size (w.alloc (.cells M 5)) ((w.alloc (.cells M 5)).setRow w.heap.size Y):=⟨rfl,rfl,rfl,by simp,fun k v=>gD _ _ _ _ (by omega)⟩;exact⟨rfl,Lib.below_freeze (d.trans f) (p:=(n_ w 0)) (ae _) _⟩
def zO(s:XB)(w:kV)(c:s.size<=140737488355328):
  C_ 49 #[.string s] w (.string s) (y_ w):=by
 have a:=ll (Pw s w c);go_enter func49,ntmps49;go_wp2_with fail;refine on_ a fun d b=>?_;go_wp2;go_ret;exact⟨rfl,b⟩
def Bd(B:Nat)(l:XU)(n:Nat)(w:kV)(h:mI w B l)(g:n<=l.length)(i:l.length<=140737488355328):
  C_ 205 #[p_ B,E4 n] w (.string ⟨(l.take n).toArray⟩) fun w'=>mI w' B (l.drop n)/\w.grownBy w' (some B):=by
 have f:=ll (tZ B l n w h g (by unfold maxLen;omega));have d:=ll (fun u=>zO ⟨(l.take n).toArray⟩ u (by rw[lF,aX];omega));have b:=ll (h.set (l.drop n));clear h;go_enter func205,ntmps205;go_wp2_with fail;refine f.mono ?_;rintro e j ⟨rfl,rfl⟩;go_wp2_with fail;refine on_ (d _) fun k c=>?_;have a:=ll c;clear c;go_wp2;go_ret;refine⟨rfl,?_,lZ (oP _) a⟩;exact(a.block B b.lt).trans b
def sO(B:Nat)(l:XU)(w:kV)(h:mI w B l)(j:l.length<=140737488355328):
  C_ 165 #[p_ B] w (.string ⟨l.toArray⟩) fun w'=>mI w' B []/\w.grownBy w' (some B):=by
 have i:=bU h;have k:=lF l;have a:=Bd B l l.length w h (ae _) j;rw[bJ,List.drop_length]at a;have g:=ll a;clear h a;go_enter func165,ntmps165;go_wp2_with fail;refine on_ g ?_;rintro m ⟨c,b⟩;have f:=ll c;have d:=ll b;clear c b i;go_wp2;go_ret;exact⟨rfl,f,d⟩
def qy(B:Nat)(a:UInt8)(l:XU)(w:kV)(h:mI w B (a::l))(b:(a::l).length<=maxLen):
  C_ 249 #[p_ B] w (E8 a.toNat) fun w'=>mI w' B l/\w.grownBy w' (some B):=by
 have c:=ll (tZ B (a::l) 1 w h (by simp) b);have d:=ll (h.set l);clear h b;go_enter func249,ntmps249;go_wp2_with fail;refine c.mono ?_;rintro e g ⟨rfl,rfl⟩;have f:∀u,(Instr.index 9 (.string ⟨#[a]⟩) (E4 0)).run prog u=.ok (E8 a.toNat) u:=fun _=>by kernel_rfl
 go_wp2;go_ret;exact⟨rfl,d,oP _⟩
def Ij(B:Nat)(a b:UInt8)(l:XU)(g d:Int)(w:kV)(h:mI w B (a::b::l))(i:(a::b::l).length<=maxLen)(o:g<=256*(a.toNat:Int)+(b.toNat:Int))(p:256*(a.toNat:Int)+(b.toNat:Int)<=d):
  C_ 248 #[p_ B,E4 g,E4 d] w (E4 (256*(a.toNat:Int)+(b.toNat:Int))) fun w'=>mI w' B l/\w.grownBy w' (some B):=by
 have c:=ll (qx B a b l w h i);have q:=a.toNat_lt;have r:=b.toNat_lt;obtain⟨x,j⟩:=ex_ (256*(a.toNat:Int)+(b.toNat:Int));rw[<-j]at c o p ⊢;have s:IntKind.i64.wrap x=x:=wrap_i64 _ (by omega) (by omega);clear h i j q r;go_enter func248,ntmps248;go_wp2_with fail;refine on_ c ?_;rintro t ⟨k,f⟩;have n:=ll k;have m:=ll f;clear k f;go_wp2_with fail;refine(ol _ (by simp<;>omega) _ _).mono ?_;rintro e v ⟨rfl,rfl⟩;go_wp2_with fail;refine(ol _ (by simp<;>omega) _ _).mono ?_;rintro e y ⟨rfl,rfl⟩;go_wp2;go_ret;exact⟨rfl,n,m⟩
def Dv(B:Nat)(a b:UInt8)(l:XU)(f k:Int)(w:kV)(h:mI w B (a::b::l))(g:(a::b::l).length<=maxLen)(m:256*(a.toNat:Int)+(b.toNat:Int)<f):
  D_ 248 #[p_ B,E4 f,E4 k] w fun e w'=>e=.panicked (mG 2)/\w.grownBy w' (some B):=by
 have c:=ll (qx B a b l w h g);have n:=a.toNat_lt;have o:=b.toNat_lt;obtain⟨x,i⟩:=ex_ (256*(a.toNat:Int)+(b.toNat:Int));rw[<-i]at c m;have q:IntKind.i64.wrap x=x:=wrap_i64 _ (by omega) (by omega);clear h g i n o;go_enter func248,ntmps248;go_wp2_with fail;refine on_ c ?_;rintro r ⟨p,d⟩;have j:=ll d;clear p d;go_wp2_with fail;refine(nk _ (by simp<;>omega) _ _).mono ?_;rintro e s ⟨rfl,rfl⟩;exact⟨rfl,rfl,j⟩
def BG(B:Nat)(a b:UInt8)(l:XU)(g d:Int)(w:kV)(h:mI w B (a::b::l))(i:(a::b::l).length<=maxLen)(m:g<=256*(a.toNat:Int)+(b.toNat:Int))(n:d<256*(a.toNat:Int)+(b.toNat:Int)):
  D_ 248 #[p_ B,E4 g,E4 d] w fun e w'=>e=.panicked (mG 1)/\w.grownBy w' (some B):=by
 have c:=ll (qx B a b l w h i);have o:=a.toNat_lt;have p:=b.toNat_lt;obtain⟨x,j⟩:=ex_ (256*(a.toNat:Int)+(b.toNat:Int));rw[<-j]at c m n;have r:IntKind.i64.wrap x=x:=wrap_i64 _ (by omega) (by omega);clear h i j o p;go_enter func248,ntmps248;go_wp2_with fail;refine on_ c ?_;rintro s ⟨q,f⟩;have k:=ll f;clear q f;go_wp2_with fail;refine(ol _ (by simp<;>omega) _ _).mono ?_;rintro e t ⟨rfl,rfl⟩;go_wp2_with fail;refine(nk _ (by simp<;>omega) _ _).mono ?_;rintro e v ⟨rfl,rfl⟩;exact⟨rfl,rfl,k⟩
def YM(x:Nat)(h:x<256):bits .and .u8 (x:Int) 15=((x%16:Nat):Int):=by
 have:=u8_and_nat x 15 h (by omega);rw[show((15:Nat):Int)=15 from rfl]at this;rw[this,show(15:Nat)=2 ^ 4-1 from rfl,iZ]
def Xu(x:Nat)(h:x<65536):bits .and .u16 (x:Int) 16383=((x%16384:Nat):Int):=by
 have:=u16_and_nat x 16383 h (by omega);rw[show((16383:Nat):Int)=16383 from rfl]at this;rw[this,show(16383:Nat)=2 ^ 14-1 from rfl,iZ]
def VP(x:Nat)(h:x<65536):bits .and .u16 (x:Int) 32768=((x/32768*32768:Nat):Int):=by
 have:=u16_and_nat x 32768 h (by omega);rw[show((32768:Nat):Int)=32768 from rfl]at this;rw[this];congr 1
 apply Nat.eq_of_testBit_eq;intro i;rw[Nat.testBit_and,show(32768:Nat)=2 ^ 15 from rfl,Nat.testBit_two_pow]
 by_cases b:x<2 ^ 15
 ·have e:x/2 ^ 15=0:=Nat.div_eq_of_lt b
  rw[e,Nat.zero_mul,Nat.zero_testBit]
  by_cases a:15=i
  ·subst a;rw[Nat.testBit_lt_two_pow b];rfl
  simp[a]
 have e:x/2 ^ 15=1:=by omega
 rw[e,Nat.one_mul,Nat.testBit_two_pow]
 by_cases a:15=i
 ·subst a
  have c:x.testBit 15=true:=by rw[Nat.testBit_eq_decide_div_mod_eq,e];rfl
  rw[c];rfl
 simp[a]
def Ou(B:Nat)(a b:UInt8)(l:XU)(w:kV)(h:mI w B (a::b::l))(d:(a::b::l).length<=maxLen)(i:a.toNat=69):
  C_ 247 #[p_ B] w (.tuple #[]) fun w'=>mI w' B l/\w.grownBy w' (some B):=by
 have c:=qy B a (b::l) w h d;rw[i]at c;have c:=ll c;have o:=ll (fun u r=>qy B b l u r (by simp only[ax]at d ⊢;omega));have s:bits .and .u8 69 15=5:=by decide
 clear h d i;go_enter func247,ntmps247;go_wp2_with fail;refine on_ c ?_;rintro t ⟨j,f⟩;have p:=ll j;have m:=ll f;clear j f;go_wp2_with fail;refine(ol _ (by simp) _ _).mono ?_;rintro e v ⟨rfl,rfl⟩;go_wp2_with fail;refine(ol _ (by simp) _ _).mono ?_;rintro e y ⟨rfl,rfl⟩;go_wp2_with fail;refine on_ (o _ p) ?_;rintro z ⟨k,g⟩;have q:=ll k;have n:=ll g;clear k g;go_wp2;go_end0;exact⟨rfl,q,lD m n⟩
def Ls(B:Nat)(a b:UInt8)(l:XU)(w:kV)(h:mI w B (a::b::l))(i:(a::b::l).length<=maxLen)(n:a.toNat/16=4)(o:5<a.toNat%16):
  D_ 247 #[p_ B] w fun e w'=>e=.panicked (mG 4)/\w.grownBy w' (some B):=by
 have f:=a.toNat_lt;have g:=YM a.toNat f;obtain⟨x,j⟩:∃x:Int,x=(a.toNat:Int):=⟨_,rfl⟩;obtain⟨y,k⟩:∃y:Int,y=((a.toNat%16:Nat):Int):=⟨_,rfl⟩;have c:=qy B a (b::l) w h i;rw[<-j]at c g;rw[<-k]at g;have c:=ll c;have p:x/16=4:=by omega
 have q:5<y:=by omega
 clear h i n o j k f;go_enter func247,ntmps247;go_wp2_with fail;refine on_ c ?_;rintro s ⟨r,d⟩;have m:=ll d;clear r d;go_wp2_with fail;refine(ol _ (by simp<;>omega) _ _).mono ?_;rintro e t ⟨rfl,rfl⟩;go_wp2_with fail;refine(nk _ (by simp<;>omega) _ _).mono ?_;rintro e v ⟨rfl,rfl⟩;exact⟨rfl,rfl,m⟩
def Mm(B:Nat)(a b:UInt8)(l:XU)(w:kV)(h:mI w B (a::b::l))(i:(a::b::l).length<=maxLen)(n:a.toNat/16≠4):
  D_ 247 #[p_ B] w fun e w'=>e=.panicked (mG 2)/\w.grownBy w' (some B):=by
 have f:=a.toNat_lt;have g:=YM a.toNat f;obtain⟨x,j⟩:∃x:Int,x=(a.toNat:Int):=⟨_,rfl⟩;obtain⟨y,k⟩:∃y:Int,y=((a.toNat%16:Nat):Int):=⟨_,rfl⟩;have c:=qy B a (b::l) w h i;rw[<-j]at c g;rw[<-k]at g;have c:=ll c;have o:(x/16==4)=false:=by simp;omega
 clear h i n j k f;go_enter func247,ntmps247;go_wp2_with fail;refine on_ c ?_;rintro q ⟨p,d⟩;have m:=ll d;clear p d;go_wp2_with fail;refine(nk _ (by simp) _ _).mono ?_;rintro e r ⟨rfl,rfl⟩;exact⟨rfl,rfl,m⟩
def KY(B:Nat)(a b:UInt8)(l:XU)(w:kV)(h:mI w B (a::b::l))(i:(a::b::l).length<=maxLen)(n:a.toNat/16=4)(o:a.toNat%16<5):
  D_ 247 #[p_ B] w fun e w'=>e=.panicked (mG 2)/\w.grownBy w' (some B):=by
 have f:=a.toNat_lt;have g:=YM a.toNat f;obtain⟨x,j⟩:∃x:Int,x=(a.toNat:Int):=⟨_,rfl⟩;obtain⟨y,k⟩:∃y:Int,y=((a.toNat%16:Nat):Int):=⟨_,rfl⟩;have c:=qy B a (b::l) w h i;rw[<-j]at c g;rw[<-k]at g;have c:=ll c;have p:x/16=4:=by omega
 have q:y<5:=by omega
 clear h i n o j k f;go_enter func247,ntmps247;go_wp2_with fail;refine on_ c ?_;rintro s ⟨r,d⟩;have m:=ll d;clear r d;go_wp2_with fail;refine(nk _ (by simp<;>omega) _ _).mono ?_;rintro e t ⟨rfl,rfl⟩;exact⟨rfl,rfl,m⟩
end Rd
namespace Dh
open Bs
open Rd (mI mG lD lY oP mq zI tZ qy)
def J3(B:Nat)(w:kV)(h:mI w B []):
  D_ 249 #[p_ B] w fun e w'=>e=.panicked (mG 1)/\w'=w:=by
 have a:=ll (zI B [] 1 w h (by simp));clear h;go_enter func249,ntmps249;go_wp2_with fail;refine a.mono ?_;rintro e b ⟨rfl,rfl⟩;exact⟨rfl,rfl,rfl⟩
def qQ:(prog.info? 151).map (fun i=>(i.zero,i.size,i.bytes))=some (some (.agg #[E8 0,.string ⟨#[]⟩]),2,24):=by kernel_rfl
def YI(l:XU)(B:Nat)(w:kV)(e:Ending)(w':kV):Prop:=
 w.grownBy w' (some B)/\match pieces l with
  |none=>e=.panicked (mG 1)
  |some ps=>∃v,e=.returned v/\w'.ownsRow w.heap.size 151 2 v ps.length (lQ ps)
def vE{w w':kV}{B base:Nat}{v:Value}{n:Nat}{xs:XL}{t:TypeId}{z:Nat}(h:w.ownsRow base t z v n xs)(a:w.grownBy w' (some B))(b:B<base):w'.ownsRow base t z v n xs:=
 h.kept a (by
  cases hv:v.ownBlock with
  |none=>exact aG rfl
  |some k=>refine aF (fun e=> ?_);have:=(h.lt k hv).1;obtain rfl:=aV e;omega)
def lH{w:kV}{b e z:Nat}{v:Value}{n:Nat}{xs:XL}(h:w.ownsRow b e z v n xs):∃a d,v=.slice a n d:=by
 rcases h.2 with⟨rfl,rfl⟩|⟨g,c,f,rfl,_⟩
 ·exact⟨_,_,rfl⟩
 exact⟨_,_,rfl⟩
def uZ{w d c:kV}{B:Nat}{r:Option Nat}(h:w.grownBy d (some B))(a:d.grownBy c r)(f:∀k,r=some k->w.heap.size<=k):w.grownBy c (some B):=
 ⟨a.os.trans h.os,a.tape.trans h.tape,a.output.trans h.output,aJ h.size a.size,fun i b A=>(a.block i (aW b h.size) (fun e=>by have:=f i e.symm;omega)).trans (h.block i b A)⟩
def uU{w a:kV}{B:Nat}{l:XU}{r:Option Nat}(h:mI w B l)(b:w.grownBy a r)(c: ¬r=some B):mI a B l:=by
 unfold mI;rw[b.block B h.lt (fun e=>c e.symm)];exact h
def KH(l z:XU)(c n:UInt8)(a:List Pc)(h:pieces l=(pieces (c::n::z)).map fun r=>a++r)(b: ¬c.toNat=255)(d: ¬c.toNat=0)(f: ¬z.length<n.toNat):
  pieces l=(pieces (z.drop n.toNat)).map fun x=>(a++ [(c,z.take n.toNat)])++x:=by
 refine h.trans ((dF _ (zt c n z b d f)).trans ?_);generalize pieces (z.drop n.toNat)=o
 cases o with
 |none=>rfl
 |some x=>simp
def Lp(B:Nat)(l:XU)(w:kV)(h:mI w B l)(hl:l.length<=268435456):
  D_ 303 #[p_ B] w fun e w'=>YI l B w e w':=by
 obtain⟨i0,hi,X,Y,Z⟩:=bZ qQ;have HR:=ll h;have W:=h.lt;clear h;go_enter func303,ntmps303;go_wp2;go_loopg [3] l.length (fun g v3 wr=>∃(m:XU) (d:List Pc),m.length=g/\g<=l.length/\2*d.length+g<=l.length/\Hid (mI wr B m)/\Hid (wr.ownsRow w.heap.size 151 2 v3 d.length (lQ d))/\Hid (pieces l=(pieces m).map fun r=>d++r)/\Hid (w.grownBy wr (some B)))
 case atStart=>exact⟨l,[],rfl,ae _,by simp,HR,ll (aU _ _ _ _),ll (by simp),ll (mq _ _)⟩
 obtain⟨m,d,D,hg,J,N,H2,f,R⟩:=hrel;rename kV=>wr
 match m,D with
 |[],D=>
  go_wp2_with fail;refine(J3 B _ N).mono ?_;rintro e w1 ⟨rfl,rfl⟩;refine⟨rfl,R,?_⟩;rw[lq f,xY];rfl
 |c::r,D=>
  have hc8:=c.toNat_lt;have A:r.length+1=gk:=by simpa using D
  go_wp2_with fail;refine on_ (qy B c r _ N (by simp only[ax,maxLen];omega)) ?_;rintro w1 ⟨r1,U⟩;have G:=ll r1;have s:=ll (lD R U);have t:=ll (vE H2 U W);clear r1 U N H2 R D
  by_cases b:c.toNat=255
  ·have q:(((c.toNat:Nat):Int)==255)=true:=by simp[b]
   have i:Hid (pieces l=some d):=ll (by rw[lq f,Ak c r b];simp);obtain⟨ao,cp,hv⟩:=lH t;clear f;subst hv;go_wp2;go_ret;refine⟨s,?_⟩;rw[lq i];exact⟨_,rfl,t⟩
  have q:(((c.toNat:Nat):Int)==255)=false:=by simp;omega
  by_cases j:c.toNat=0
  ·have q0:(((c.toNat:Nat):Int)==0)=true:=by simp[j]
   have i:Hid (pieces l=(pieces r).map fun x=>d++x):=ll (by rw[lq f,zg c r j]);clear f b j;go_wp2;go_roundg (gk-1)
   case rel=>exact⟨r,d,by omega,by omega,by omega,G,t,i,s⟩
   omega
  have q0:(((c.toNat:Nat):Int)==0)=false:=by simp;omega
  match r,A with
  |[],A=>
   have i:Hid (pieces l=none):=ll (by rw[lq f,zb c b j];rfl);clear f b j;go_wp2_with fail;refine(J3 B _ G).mono ?_;rintro e L ⟨rfl,rfl⟩;refine⟨rfl,s,?_⟩;rw[lq i]
  |n::z,A=>
   have hn8:=n.toNat_lt;have O:z.length+2=gk:=by simpa using A
   go_wp2_with fail;refine on_ (qy B n z _ G (by simp only[ax,maxLen];omega)) ?_;rintro L ⟨r2,V⟩;have H:=ll r2;have F:=ll (lD s V);have T:=ll (vE t V W);clear r2 V G s t A
   by_cases o:z.length<n.toNat
   ·have i:Hid (pieces l=none):=ll (by rw[lq f,AA c n z b j o];rfl)
    clear f b j;go_wp2_with fail;refine(zI B z (n.toNat:Int) _ H (by omega)).mono ?_;rintro e w3 ⟨rfl,rfl⟩;refine⟨rfl,F,?_⟩;rw[lq i]
   have i:Hid (pieces l=(pieces (z.drop n.toNat)).map fun x=>(d++ [(c,z.take n.toNat)])++x):=ll (KH l z c n d f b j o);clear f b j;have hw2:w.heap.size<=L.heap.size:=F.size;have M:d.length<=268435456:=by omega
   have OW:=ll (dQ (a:=(a_ B 0)) T W (.string ⟨(z.drop n.toNat).toArray⟩));go_wp2_with (first|(go_at_call 203;refine(tZ B z n.toNat _ H (by omega) (by simp only[maxLen];omega)).mono ?_;rintro e w3 ⟨rfl,rfl⟩)|(at_builtin;refine bN _ rfl (.tmp 16) (.tmp 22) 184 rfl w.heap.size 151 i0 (.agg #[E8 0,.string ⟨#[]⟩]) 2 24 gm hi X Y Z rfl (by decide) _ d.length (lQ d) rfl (OW.alloc _) (n_ L 0) 1 1 [E8 c.toNat,.string ⟨(z.take n.toNat).toArray⟩] rfl rfl ?c1 ?one ?h63 ?hby ?hba ?_));case c1=>
    have q:=mU (L.setCell (a_ B 0) (.string ⟨(z.drop n.toNat).toArray⟩)) [E8 c.toNat,.string ⟨(z.take n.toNat).toArray⟩] 151;simpa using q
   case one=>intro u hu;simp at hu;rcases hu with rfl|rfl<;>rfl
   case h63=>simp only[maxLen];omega
   case hby=>omega
   case hba=>simp;omega
   intro v' w4 I p _;have E:∀k,Value.ownBlock _=some k->w.heap.size<=k:=fun k hk=>(T.lt k hk).1;have v:=uZ (lY (lD F (oP (.string ⟨(z.drop n.toNat).toArray⟩))) (.cells #[E8 c.toNat,.string ⟨(z.take n.toNat).toArray⟩] 151)) p E;have C:mI w4 B (z.drop n.toNat):=uU ((H.set (z.drop n.toNat)).alloc _) p (fun e=>by have:=E B e;omega);have R4:=ll C;have G4:=ll v;have y:w4.ownsRow w.heap.size 151 2 v' (d++ [(c,z.take n.toNat)]).length (lQ (d++ [(c,z.take n.toNat)])):=by
    rw[au,mV];exact I
   have O4:=ll y;clear I p E v C y OW T H F;go_wp2;go_roundg (z.drop n.toNat).length
   case rel=>exact⟨z.drop n.toNat,d++ [(c,z.take n.toNat)],rfl,by rw[bz];omega,by simp only[au,ax,bn,bz];omega,R4,O4,i,G4⟩
   rw[bz];omega
end Dh
namespace Ip
open Bs Rb Wt xJ
def PQ(u:kV)(g:Nat)(a b:Int)(f:0<=a/\a<=255)(i:0<=b/\b<=255)(c:u.cell? (a_ g 0)=some (E8 a))(d:u.cell? (a_ g 1)=some (E8 b)):
  (convert 55 9 (.slice (some (a_ g 0)) 2 2)).run prog u=.ok (.string ⟨#[lV a,lV b]⟩) u:=by
 refine dE _ _ _ 5 (a_ g 0) 2 [lV a,lV b] bQ dW dB (fun j k=> ?_);rw[nz]
 match j,k with
 |0,_=>rw[c];simp only[gJ,oN];rw[jq f.1 (by omega)]
 |1,_=>rw[d];simp only[fO,gJ,oN];rw[jq i.1 (by omega)]
def sM{a b:XB}{k:Int}(h:a=b):Ending.returned (.tuple #[.string a,E4 k])=.returned (.tuple #[.string b,E4 k]):=by rw[h]
def qI{w u:kV}{a:XV}{t:TypeId}(h:Below (w.heap.size+1) (w.alloc (.cells a t)) u):∀j,u.cell? (n_ w j)=a[j]?:=fun j=>by
 rw[h.cell (p:=(n_ w j)) (by simp),af _ w.heap.size j a t (0,0) (ah w _)]
def sizes{w u:kV}{o:Obj}(h:Below (w.heap.size+1) (w.alloc o) u):w.heap.size+1<=u.heap.size:=by have:=h.size;simpa using this
end Ip
end Go.Proofs.YtnbaacgmlbhhcaaGreatDoor
