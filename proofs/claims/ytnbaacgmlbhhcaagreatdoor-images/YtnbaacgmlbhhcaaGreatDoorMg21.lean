import Derived.Test.YtnbaacgmlbhhcaaGreatDoorMg17
import Derived.Laws.EntriesVeiled
import Derived.Lib.AtoiErrMem
import Derived.Lib.QuietBelow
set_option linter.all false
set_option maxHeartbeats 4000000
set_option maxRecDepth 10000
open Go.ChangeShapes Go.WideShapes Go.ChangeAt Go.RowKit
open Go renaming World → kV
open Go.Proofs.Tryz
namespace Go.Proofs.YtnbaacgmlbhhcaaGreatDoor
namespace Nu
open Bs
variable{w0 w w' x y:kV}{P:Nat->Prop}{B g cp f:Nat}{cs:XV}{l l':Lc}{d d':Sd}{s s':S}{v v':Value}{R:Nat->Lc->kV->Prop}{t:TypeId}
def lT(a:w.heap[g]?=some (.cells cs t (0,0))):Kn w g cs:=by
 have:=aC a;exact⟨fun j=>af _ _ j _ _ _ a,fun j=>by simp[World.frozen?,a],this,by omega,by omega,fun k=>by omega,fun k=>by omega,fun k=>by omega⟩
def qH{o q:Obj}(a:w.heap[g]?=some q):(w.alloc o).heap[g]?=some q:=(aO w o g (aC a)).trans a
def Does(R:Nat->Lc->kV->Prop)(f:Nat)(v:Value)(s s':S):Prop:=
 ∀ {w0:kV} {P:Nat->Prop} {w:kV} {B:Nat} {l:Lc},Mx w0 P w B l s->R B l w->C_ f #[p_ B,v] w (.tuple #[]) fun u=>∃l',Mx w0 P u B l' s'
def KV{Q:Ending->kV->Prop}(c:Does R f v s s')(h:Mx w0 P w B l s)(i:R B l w)(b:w.heap[g]?=some (.cells cs t (0,0)))(d: ¬lI B l g)(k:∀u l',Mx w0 P u B l' s'->Kn u g cs->Q (.returned (.tuple #[])) u):D_ f #[p_ B,v] w Q:=
 on_ (c h.base i) fun u ⟨l',a⟩=>k u l' (h.join a) (lT ((a.kept g (aC b) d).trans b))
abbrev Pz:XV:=#[E6 2,.func (.func 255) #[] #[],E6 5,.func (.func 256) #[] #[],E6 6,.func (.func 257) #[] #[]]
def Gs(w:kV):C_ 217 #[] w (.slice (some (n_ w 0)) 3 3) fun u=>u=w.alloc (.cells Pz 299):=by
 go_enter func217,ntmps217;go_wp2;go_ret;exact⟨rfl,rfl⟩
def KF(A:∀B l u o,R B l u->R B l (u.alloc o))(h:Mx w0 P w B l s)(i:R B l w)(b:w.heap[g]?=some (.cells Pz 299 (0,0)))(f: ¬lI B l g)(a:Int)(p:Rp){n q r:S}(t:Does R 255 (.agg p.c) s n)(v:Does R 256 (.agg p.c) s q)(y:Does R 257 (.agg p.c) s r):
  C_ 216 #[p_ B,.slice (some (a_ g 0)) 3 cp,E6 a,(.agg p.c)] w (.tuple #[]) fun u=>∃l',Mx w0 P u B l' (if a=2 then n else if a=5 then q else if a=6 then r else s):=by
 have k:=lT b
 rcases(by omega:a=2∨a=5∨a=6∨ ¬a=2/\ ¬a=5/\ ¬a=6)with rfl|rfl|rfl|⟨n0,n1,n2⟩
 all_goals
  simp only[Int.reduceEq,bI,bD, *];go_enter func216,ntmps216;go_wp2;refine ig 4 ?_;iterate 4
   rw[iH];go_wp2_with (first|(go_at_call 255;refine KV t (by repeat with_reducible first|apply Mw.al|exact h) (by repeat with_reducible first|apply A|exact i) (by repeat with_reducible first|apply qH|exact b) f fun u1 j d m=> ?_)|(go_at_call 256;refine KV v (by repeat with_reducible first|apply Mw.al|exact h) (by repeat with_reducible first|apply A|exact i) (by repeat with_reducible first|apply qH|exact b) f fun u1 j d m=> ?_)|(go_at_call 257;refine KV y (by repeat with_reducible first|apply Mw.al|exact h) (by repeat with_reducible first|apply A|exact i) (by repeat with_reducible first|apply qH|exact b) f fun u1 j d m=> ?_))
  go_end0;first|exact⟨rfl,j,by repeat with_reducible first|apply Mw.al|exact d⟩|exact⟨rfl,l,by repeat with_reducible first|apply Mw.al|exact h⟩
structure Lt where
 op:Int
 bl:Int
 ts:XB
 ds:XB
 sa:XO
 n:Nat
 sc:Nat
 pt:Int
abbrev Lt.c(p:Lt):XV:=#[E6 p.op,E6 p.bl,.string p.ts,.string p.ds,.slice p.sa p.n p.sc,E6 p.pt]
abbrev J9:XV:=#[E6 5,.func (.func 260) #[] #[],E6 6,.func (.func 261) #[] #[],E6 3,.func (.func 262) #[] #[]]
def DZ(w:kV):C_ 220 #[] w (.slice (some (n_ w 0)) 3 3) fun u=>u=w.alloc (.cells J9 306):=by
 go_enter func220,ntmps220;go_wp2;go_ret;exact⟨rfl,rfl⟩
def JX(A:∀B l u o,R B l u->R B l (u.alloc o))(h:Mx w0 P w B l s)(i:R B l w)(b:w.heap[g]?=some (.cells J9 306 (0,0)))(f: ¬lI B l g)(a:Int)(p:Lt){n q r:S}(t:Does R 260 (.agg p.c) s n)(v:Does R 261 (.agg p.c) s q)(y:Does R 262 (.agg p.c) s r):
  C_ 219 #[p_ B,.slice (some (a_ g 0)) 3 cp,E6 a,(.agg p.c)] w (.tuple #[]) fun u=>∃l',Mx w0 P u B l' (if a=5 then n else if a=6 then q else if a=3 then r else s):=by
 have k:=lT b
 rcases(by omega:a=5∨a=6∨a=3∨ ¬a=5/\ ¬a=6/\ ¬a=3)with rfl|rfl|rfl|⟨n0,n1,n2⟩
 all_goals
  simp only[Int.reduceEq,bI,bD, *];go_enter func219,ntmps219;go_wp2;refine ig 4 ?_;iterate 4
   rw[iH];go_wp2_with (first|(go_at_call 260;refine KV t (by repeat with_reducible first|apply Mw.al|exact h) (by repeat with_reducible first|apply A|exact i) (by repeat with_reducible first|apply qH|exact b) f fun u1 j d m=> ?_)|(go_at_call 261;refine KV v (by repeat with_reducible first|apply Mw.al|exact h) (by repeat with_reducible first|apply A|exact i) (by repeat with_reducible first|apply qH|exact b) f fun u1 j d m=> ?_)|(go_at_call 262;refine KV y (by repeat with_reducible first|apply Mw.al|exact h) (by repeat with_reducible first|apply A|exact i) (by repeat with_reducible first|apply qH|exact b) f fun u1 j d m=> ?_))
  go_end0;first|exact⟨rfl,j,by repeat with_reducible first|apply Mw.al|exact d⟩|exact⟨rfl,l,by repeat with_reducible first|apply Mw.al|exact h⟩
abbrev OE:XV:=#[E6 2054,.func (.func 140) #[] #[],E6 2048,.func (.func 141) #[] #[]]
def EA(w:kV):C_ 100 #[] w (.slice (some (n_ w 0)) 2 2) fun u=>u=w.alloc (.cells OE 201):=by
 go_enter func100,ntmps100;go_wp2;go_ret;exact⟨rfl,rfl⟩
def Me(A:∀B l u o,R B l u->R B l (u.alloc o))(h:Mx w0 P w B l s)(i:R B l w)(b:w.heap[g]?=some (.cells OE 201 (0,0)))(f: ¬lI B l g)(a:Int)(c:XB){m n:S}(p:Does R 140 (.string c) s m)(q:Does R 141 (.string c) s n):
  C_ 99 #[p_ B,.slice (some (a_ g 0)) 2 cp,E6 a,(.string c)] w (.tuple #[]) fun u=>∃l',Mx w0 P u B l' (if a=2054 then m else if a=2048 then n else s):=by
 have k:=lT b
 rcases(by omega:a=2054∨a=2048∨ ¬a=2054/\ ¬a=2048)with rfl|rfl|⟨n0,n1⟩
 all_goals
  simp only[Int.reduceEq,bI,bD, *];go_enter func99,ntmps99;go_wp2;refine ig 3 ?_;iterate 3
   rw[iH];go_wp2_with (first|(go_at_call 140;refine KV p (by repeat with_reducible first|apply Mw.al|exact h) (by repeat with_reducible first|apply A|exact i) (by repeat with_reducible first|apply qH|exact b) f fun u1 j d r=> ?_)|(go_at_call 141;refine KV q (by repeat with_reducible first|apply Mw.al|exact h) (by repeat with_reducible first|apply A|exact i) (by repeat with_reducible first|apply qH|exact b) f fun u1 j d r=> ?_))
  go_end0;first|exact⟨rfl,j,by repeat with_reducible first|apply Mw.al|exact d⟩|exact⟨rfl,l,by repeat with_reducible first|apply Mw.al|exact h⟩
def Br{a b:XB}(h: ¬a=b):(a.toList==b.toList)=false:=by
 rw[aP];intro e;rw[bi,bi]at e
 cases a
 cases b
 exact h (dF ByteArray.mk (Array.toList_inj.1 e))
abbrev Kg(n:Int):XB:=⟨(Lib.itoa n).toArray⟩
def Md(n:Int)(b:0<=n/\n<=9999999)(h:Gl w):C_ 156 #[E4 n] w (.string (Kg n)) (y_ w):=by
 refine(Sf.strconv_Itoa n (by omega) (by omega) w h.tb).mono ?_;rintro e w' ⟨rfl,k,a,rfl⟩;exact⟨rfl,Go.below_regrown w _ a⟩
def Gl.below(h:Gl w)(a:y_ w w')(c:9<=w.heap.size):Gl w':=h.of fun k b=>a.block k (by omega)
def Ch(s:XB):Option Int:=match Lib.atoiAll s.data.toList with
 | .ok v=>if(decide (0<=v) && decide (v<=9999999))=true/\Kg v=s then some v else none
 |_=>none
def L_(t:XB)(C:t.size<=1048576)(j:Gl w)(B:9<=w.heap.size):C_ 310 #[.string t] w (.tuple #[E4 ((Ch t).getD 0),.bool (Ch t).isSome]) (y_ w):=by
 unfold Ch;have d:=fun g s=>j.te g s
 cases ha:Lib.atoiAll t.data.toList with
 |ok v=>
  dsimp only;have c:C_ 325 #[.string t] w (.tuple #[E4 v,.nilIface]) (y_ w):=(Sf.strconv_Atoi_ok t (by omega) v ha w).mono (by
   rintro e w' ⟨rfl,rfl|⟨t,rfl⟩⟩
   ·exact⟨rfl,aK _ _⟩
   exact⟨rfl,Lib.bytesWorld_below w _ t⟩)
  have r:=fun u=>oh.Cj v 0 9999999 u;have p:(decide (0<=v) && decide (v<=9999999))=true->∀u,y_ w u->C_ 156 #[E4 v] u (.string (Kg v)) (y_ u):=fun y u o=>Md v (by simpa using y) (j.below o B);generalize hd:(decide (0<=v) && decide (v<=9999999))=b at*;generalize Kg v=z at*;clear hd ha d j;have k:z=t∨ ¬z=t/\(z.toList==t.toList)=false:=by
   by_cases e:z=t
   ·exact aG e
   exact aF ⟨e,Br e⟩
  cases b
  all_goals
   rcases k with k|⟨k,A⟩
   all_goals
    first|subst k|rw[az (fun q=>k q.2)]
    try simp only[aY,f_,kv,bI,bD]
    go_enter func310,ntmps310;go_wp2_with (first|(go_at_call 325;refine on_ c fun u1 a=> ?_)|(go_at_call 77;refine on_ (r _) fun u2 o=> ?_;subst o)|(go_at_call 156;refine on_ (p (by trivial) _ a) fun u3 n=> ?_));go_ret2;first|exact⟨rfl,a.trans (n.mono a.size)⟩|exact⟨rfl,a⟩
 |«syntax» =>
  obtain⟨l,f,i⟩:=d _ (aG rfl);have c:=Sf.strconv_Atoi_syntax t (by omega) ha l w f i;clear ha j d f i;go_enter func310,ntmps310;go_wp2_with (go_at_call 325;refine c.mono ?_;rintro _ u ⟨N,rfl,_,_,m⟩);go_ret2;exact⟨rfl,m⟩
 |range=>
  obtain⟨l,f,i⟩:=d _ (aF rfl);have c:=Sf.strconv_Atoi_range t (by omega) ha l w f i;clear ha j d f i;go_enter func310,ntmps310;go_wp2_with (go_at_call 325;refine c.mono ?_;rintro _ u ⟨N,rfl,_,_,m⟩);go_ret2;exact⟨rfl,m⟩
def Eb:XB:=⟨#[116,115,105,122,101]⟩
def CK:XB:=⟨#[98,108,107,115,105,122,101]⟩
def Cw:XB:=⟨#[119,105,110,100,111,119,115,105,122,101]⟩
def names(a:XB):a=Eb∨a=CK∨a=Cw∨(¬a=Eb/\ ¬a=CK/\ ¬a=Cw)/\(a.toList==[116,115,105,122,101])=false/\(a.toList==[98,108,107,115,105,122,101])=false/\(a.toList==[119,105,110,100,111,119,115,105,122,101])=false:=by
 by_cases b:a=Eb
 ·exact aG b
 by_cases c:a=CK
 ·exact aF (aG c)
 by_cases d:a=Cw
 ·exact aF (aF (aG d))
 have f:=Br b;have g:=Br c;have i:=Br d;rw[bi (bs:=Eb)]at f;rw[bi (bs:=CK)]at g;rw[bi (bs:=Cw)]at i;exact aF (aF (aF ⟨⟨b,c,d⟩,f,g,i⟩))
def S.Kl(s:S)(nm v:XB):Int:=match Ch v with
 |none=>8
 |some n=>if nm=Eb then(if s.cap<n then 3 else 0)else if nm=CK then(if(decide (8<=n) && decide (n<=s.blk))=true then 0 else 8)else if nm=Cw then(if(decide (1<=n) && decide (n<=s.win))=true then 0 else 8)else 8
def S.Ef(s:S)(nm v:XB):S:=match Ch v with
 |none=>s
 |some n=> {s with nK:=if nm=CK/\(decide (8<=n) && decide (n<=s.blk))=true then n else s.nK,oL:=if nm=Cw/\(decide (1<=n) && decide (n<=s.win))=true then n else s.oL}
def ax6:(Eb=CK↔False)/\(Eb=Cw↔False)/\(CK=Eb↔False)/\(CK=Cw↔False)/\(Cw=Eb↔False)/\(Cw=CK↔False):=by
 refine⟨?_,?_,?_,?_,?_,?_⟩<;>exact⟨fun h=>absurd (dF (fun b:XB=>b.data) h) (by decide),False.elim⟩
def TA(h:Mx w0 P w B l s)(c v:XB)(F:v.size<=1048576):C_ 290 #[p_ B,.agg #[.string c,.string v]] w (E6 (s.Kl c v)) fun u=>Mx w0 P u B l (s.Ef c v):=by
 have j:=h.al (o:=.cells #[.string c,.string v] 155);have q:=L_ v F j.gw (aJ j.low.1 j.size);have r:=h.k;have f:=fun n u=>oh.Cj n 8 s.blk u;have g:=fun n u=>oh.Cj n 1 s.win u;obtain⟨t,y,z,C,D,E⟩:=ax6;unfold S.Kl S.Ef;generalize Ch v=o at*
 cases o with
 |none=>
  dsimp only;go_enter func290,ntmps290;go_wp2_with (go_at_call 310;refine on_ q fun u1 a=> ?_);go_ret;exact⟨rfl,h.al.below a⟩
 |some n=>
  dsimp only;have d:s.cap<n∨ ¬s.cap<n/\n<=s.cap:=by omega
  generalize hb:(decide (8<=n) && decide (n<=s.blk))=b;generalize hw:(decide (1<=n) && decide (n<=s.win))=wn;replace f:∀u,C_ 77 (rL n 8 s.blk) u (.bool b) fun p=>p=u:=fun u=>by rw[<-hb];exact f n u
  replace g:∀u,C_ 77 (rL n 1 s.win) u (.bool wn) fun p=>p=u:=fun u=>by rw[<-hw];exact g n u
  clear hb hw
  rcases names c with rfl|rfl|rfl|⟨⟨L,M,N⟩,H,I,J⟩
  case' inl=>rcases d with d|⟨d,A⟩
  case' inr.inl=>cases b
  case' inr.inr.inl=>cases wn
  all_goals
     as_aux_lemma=>
   simp only[t,y,z,C,D,E,d,bI,bD,gM,f_,aY, *];try unfold Eb at*
   try unfold CK at*
   try unfold Cw at*
   go_enter func290,ntmps290;go_wp2_with (first|(go_at_call 310;refine on_ q fun u1 a=> ?_;have i:=h.al.below a;have O:=i.k;have G:=xJ.mX a)|(go_at_call_of 77 (Value.int .i64 8);refine on_ (f _) fun u2 m=> ?_;subst m)|(go_at_call_of 77 (Value.int .i64 1);refine on_ (g _) fun u2 m=> ?_;subst m));go_ret;first|exact⟨rfl,i.st.x rfl rfl⟩|exact⟨rfl,i⟩
end Nu
end Go.Proofs.YtnbaacgmlbhhcaaGreatDoor
