import Derived.Test.YtnbaacgmlbhhcaaGreatDoorMg20
import Derived.Test.YtnbaacgmlbhhcaaGreatDoorMg27
import Derived.Lib.ItoaLen
set_option linter.all false
set_option maxHeartbeats 4000000
set_option maxRecDepth 10000
open Go.ChangeShapes Go.WideShapes Go.ChangeAt Go.RowKit
open Go.Proofs.Tryz
namespace Go.Proofs.YtnbaacgmlbhhcaaGreatDoor
namespace Nu
open Bs
variable{w0 w w' x y:World}{P:Nat->Prop}{B:Nat}{cs:XV}{l l':Lc}{d d':Sd}{s s':S}{v v':Value}
abbrev S.Gb(s:S):Tf.sG:=⟨1,0,s.name.data.toList,[],[([98,108,107,115,105,122,101],Lib.itoa s.blk),([119,105,110,100,111,119,115,105,122,101],Lib.itoa s.win),([116,115,105,122,101],[48])]⟩
abbrev S.Ae(s:S):XB:=⟨(Tf.GD s.Gb).toArray⟩
abbrev S.LB(s:S):XV:=#[.string ⟨#[98,108,107,115,105,122,101]⟩,.string (Kg s.blk),.string ⟨#[119,105,110,100,111,119,115,105,122,101]⟩,.string (Kg s.win),.string ⟨#[116,115,105,122,101]⟩,.string ⟨#[48]⟩]
def MU{g:Nat}{t:TypeId}(h:w.heap[g]?=some (.cells s.LB t (0,0))):Tf.wL w (some (a_ g 0)) s.Gb.fs:=by
 have q:=fun j=>af w g j _ _ _ h;intro i b;refine⟨(a_ g 0),rfl,?_⟩;have a:i<3:=b
 match i,a with
 |0,_=>exact⟨q 0,q 1⟩
 |1,_=>exact⟨q 2,q 3⟩
 |2,_=>exact⟨q 4,q 5⟩
structure S.Cf (s:S):Prop where
 name:s.name.size<=20/\Tf.lL s.name.data.toList=true
 blk:8<=s.blk/\s.blk<=1024
 win:1<=s.win/\s.win<=8
 cap:1<=s.cap/\s.cap<=600000
 mJ:s.mJ.size=32
def Vm(u:Nat):Tf.lL (Lib.decDigits u)=true:=by
 induction u using Nat.strongRecOn with
 |ind u ih=>
  have a:∀d,d<10->Tf.Gy (UInt8.ofNat (48+d))=true:=by decide
  rw[Lib.decDigits]
  split
  ·simp only[Tf.lL,List.isEmpty_cons,jJ,List.all_nil,a u (by assumption)];rfl
  have q:=ih (u/10) (by omega);unfold Tf.lL at q ⊢;rw[bG]at q;rw[iB,q.2];simp only[jJ,List.all_nil,a (u%10) (by omega)];simp
def ai1(c:s.Cf):Tf.Qh s.Gb=0:=by
 have l:=Lib.itoa_length_le s.blk (by have:=c.blk;omega) (by have:=c.blk;omega);have m:=Lib.itoa_length_le s.win (by have:=c.win;omega) (by have:=c.win;omega);have d:∀n:Int,0<=n->Tf.lL (Lib.itoa n)=true:=fun n h=>by unfold Lib.itoa;rw[az (by omega)];exact Vm _
 have j:=d s.blk (by have:=c.blk;omega);have k:=d s.win (by have:=c.win;omega);have i:=c.name.1;have f:=c.name.2;rw[<-mg]at i;unfold S.Gb;generalize Lib.itoa s.blk=a at*;generalize Lib.itoa s.win=b at*;generalize s.name.data.toList=t at*;have g:Tf.DK ⟨1,0,t,[],[([98,108,107,115,105,122,101],a),([119,105,110,100,111,119,115,105,122,101],b),([116,115,105,122,101],[48])]⟩=true:=by
  unfold Tf.DK;rw[aB rfl,f];simp only[Tf.vI,jJ,List.all_nil,Tf.PW,j,k];rfl
 unfold Tf.Qh;rw[az (by rw[g];simp),az (by simp),az];simp[Tf.pg,Tf.Bq,Tf.pO,Tf.oI,Tf.fd8];omega
def Lh(h:Mx w0 P w B l s)(c:s.Cf):C_ 126 #[p_ B] w (.agg (rG s.port 69 s.Ae)) fun u=>Mx w0 P u B l s:=by
 have H:=(h.al (o:=.cells wG 98)).base.dr;have C:=Lib.itoa_length_le s.blk (by have:=c.blk;omega) (by have:=c.blk;omega);have D:=Lib.itoa_length_le s.win (by have:=c.win;omega) (by have:=c.win;omega);have d:∀ {u:World} {g:Nat},Mx (w.alloc (.cells wG 98)) (lI B l) u B l s->u.heap[g]?=some (.cells s.LB 155 (0,0))->C_ 155 #[p_ B,E6 69,.agg (rT 1 0 s.name ⟨#[]⟩ (some (a_ g 0)) 3 3)] u (.agg (rG s.port 69 s.Ae)) fun I=>Mx (w.alloc (.cells wG 98)) (lI B l) I B l s:=fun A z=>
  xV A 69 s.Gb rfl rfl (by decide) rfl rfl rfl (MU z) (by simp only[Tf.mM,List.foldr,List.map,iT,ax];simp;omega) (by have:=c.name;show s.name.data.toList.length<=_;rw[mg];omega) (by simp) (ai1 c) (by decide)
 have f:=fun {w} n hn a=> @Md w n hn a;unfold S.Ae at d ⊢;generalize(⟨(Tf.GD s.Gb).toArray⟩:XB)=R at*;unfold S.LB at d;generalize he1:Kg s.blk=d1 at*;generalize he2:Kg s.win=d2 at*;have t:∀ {u},Gl u->C_ 156 #[E4 s.blk] u (.string d1) (y_ u):=fun a=>by rw[<-he1];exact f _ (by have:=c.blk;omega) a
 have y:∀ {u},Gl u->C_ 156 #[E4 s.win] u (.string d2) (y_ u):=fun a=>by rw[<-he2];exact f _ (by have:=c.win;omega) a
 clear he1 he2 f C D c;have r:=h.k;go_enter func126,ntmps126;go_wp2;go_region_held3 (Cl · B (cells l s)) (first|exact H.cell|exact i.cell|exact j.cell|exact j.al.cell|exact b.cell|exact((h.al.join b).sa3 (h.out 0)).cell)
  (first|(go_at_call_of 156 (Value.int .i64 s.blk);refine on_ (t H.gw) fun u1 m=> ?_;have i:=H.below m)|(go_at_call_of 156 (Value.int .i64 s.win);refine on_ (y i.gw) fun u2 p=> ?_;have j:=i.below p)|(go_at_call 155;refine on_ (d j.al (ah _ _)) fun u4 b=> ?_;have q:u4.heap[w.heap.size]?=some (.cells wG 98 (0,0)):=(b.kept _ (by simp) (h.out 0).1).trans (ah w _);have J:=lT q))
 go_wp2;obtain⟨E,F,G⟩:=oh.zQ q (E6 s.port) (E6 69) (.string R);exact aQ (v:=.agg (rG s.port 69 R)) (by simp[results,results126,go_sem,E,F,G]) rfl ⟨rfl,(h.al.join b).sa3 (h.out 0)⟩
abbrev S.fresh(s:S):S:={s with phase:=1,port:=1024+s.draw%60000,oJ:=0,nK:=512,oL:=1,since:=0,pU:=1,sF:=0,sT:=0,sL:=⟨#[]⟩,fs:=0,fu:=0}
abbrev S.reads(s:S):S:={s with phase:=1,port:=1024+s.draw%60000,oJ:=0,nK:=512,oL:=1,since:=0,pU:=1,sF:=1024+s.draw%60000,sT:=69,sL:=s.Ae,fs:=0,fu:=0}
def Kq(o:s.Ok):s.reads.Ok:={o with sF:=by have:=o.draw;show 0<=1024+s.draw%60000/\1024+s.draw%60000<=65535;omega,sT:=by show(0:Int)<=69/\(69:Int)<=65535;decide,sL:=aJ (sW _) (by decide)}
noncomputable def S.LD (s:S):S:=s.reads.pW
def D7(o:s.Ok)(c:s.Cf):Ms 85 [] s (.tuple #[]) s.LD:=by
 intro w0 P w B l h;have i:=o.draw;have r:=h.k;have d:= @Az s.reads (Kq o) (show(0:Int)<=0/\(0:Int)<=4 by decide);have b:=fun {w0 P w B l} h=> @Lh w0 P w B l s.fresh h {c with};unfold S.LD;generalize s.reads.pW=z at*;go_enter func85,ntmps85;go_wp2_with (first|(go_at_call 126;refine on_ (b (Mw.x (w0:=w0) (P:=P) (by repeat with_reducible first|apply Mw.st|exact h) (by kernel_rfl) rfl)) fun u1 a=> ?_;have j:=a.k)|(go_at_call 88;refine qC d (a.st.st.st.x rfl rfl) fun u2 g f m=> ?_));go_end0;exact⟨rfl,g,f⟩
noncomputable def S.wM (s:S):S:=
 if s.st=0 then S.enter {s with lM:=s.draw} 1
 else if s.st=1∨s.st=2 then(if s.now<s.wu then s else if s.ws=4 then s.fail else s.yE)
 else if s.st=3 then(if wrap64 (s.gr+2)<=s.now then S.LD {s with st:=4}else s)
 else s.Zz
def GM(o:s.Ok)(c:s.Cf)(p:0<=s.ws/\s.ws<=4)(A:0<=s.st/\s.st<=6):Ms 55 [] s (.tuple #[]) s.wM:=by
 intro w0 P w B l h;have r:=h.k;have t:IntKind.i64.wrap (s.gr+2)=wrap64 (s.gr+2):=by unfold wrap64;exact gG _
 have j:= @xC {s with lM:=s.draw} {o with lM:=o.draw} 1;have n:= @Bv s s.yE s.ws s.wu _ (aG rfl) (fun _ _=>Ja o p);have i:= @D7 {s with st:=4} o {c with};have m:= @LC s o;unfold S.wM;generalize(if s.now<s.wu then s else if s.ws=4 then s.fail else s.yE)=z at*;generalize S.LD {s with st:=4}=y at*;generalize S.enter {s with lM:=s.draw} 1=x at*;generalize s.Zz=a at*
 rcases(by omega:s.st=0∨(s.st=1∨s.st=2)∨s.st=3∨s.st=4∨s.st=5∨s.st=6)with e|(e|e)|e|e|e|e
 case inr.inr.inl=>
  simp only[e,Int.reduceEq,or_self,bI,bD]
  by_cases g:wrap64 (s.gr+2)<=s.now
  all_goals
   simp only[g,bI,bD];have q:=yN e;clear e;try simp only[Int.not_le]at g
   go_enter func55,ntmps55;go_wp2;go_quiet (fail);go_wp2_with (go_at_call 85;refine qC i (h.dn.st.x rfl rfl) fun u1 d b f=> ?_);go_end0;first|exact⟨rfl,d,b⟩|exact⟨rfl,l,h.dn⟩
 all_goals
  simp only[e,Int.reduceEq,or_self,or_true,true_or,bI,bD];have q:=yN e;clear e;go_enter func55,ntmps55;go_wp2_with (first|(go_at_call 82;refine qC j (h.st.x rfl rfl) fun u1 d b f=> ?_)|(go_at_call 83;refine qC n h fun u1 d b f=> ?_)|(go_at_call 86;refine qC m h fun u1 d b f=> ?_));go_end0;exact⟨rfl,d,b⟩
end Nu
end Go.Proofs.YtnbaacgmlbhhcaaGreatDoor
