import Derived.Test.YtnbaacgmlbhhcaaGreatDoorMg18
set_option linter.all false
set_option maxHeartbeats 4000000
set_option maxRecDepth 10000
open Go.ChangeShapes Go.WideShapes Go.ChangeAt Go.RowKit
open Go renaming World → kV
open Go.Proofs.Tryz
namespace Go.Proofs.YtnbaacgmlbhhcaaGreatDoor
namespace Nu
open Bs
open oh (Nb uw zZ U4 tu vT)
variable{w0 w w' x y:kV}{P:Nat->Prop}{B:Nat}{cs:XV}{l l':Lc}{d d':Sd}{s s':S}{v v':Value}{a:Int}{n:Nb}
structure Ap where
 op:Int
 k0:UInt8
 k1:UInt8
 k2:UInt8
 k3:UInt8
 k4:UInt8
 k5:UInt8
 oC:Int
 t0:UInt8
 t1:UInt8
 t2:UInt8
 t3:UInt8
 t4:UInt8
 t5:UInt8
 Nz:Int
abbrev Ap.c(p:Ap):XV:=(rA p.op p.k0.toNat p.k1.toNat p.k2.toNat p.k3.toNat p.k4.toNat p.k5.toNat p.oC p.t0.toNat p.t1.toNat p.t2.toNat p.t3.toNat p.t4.toNat p.t5.toNat p.Nz)
abbrev Ap.k(p:Ap):XU:=[p.k0,p.k1,p.k2,p.k3,p.k4,p.k5]
def S.asks(s:S)(p:Ap):Bool:=p.op==1 && (p.Nz !=0 && p.Nz==s.addr)
def zy(h:Mx w0 P w B l s)(p:Ap):C_ 171 #[p_ B,.agg p.c] w (.bool (s.asks p)) fun u=>Mx w0 P u B l s:=by
 have r:=h.k;unfold S.asks
 by_cases a:p.op=1
 case neg=>
  have d:(p.op==1)=false:=by simpa using a
  rw[d,jA];clear a;go_enter func171,ntmps171;go_wp2;go_quiet (fail);go_wp2;go_ret;exact⟨rfl,h.al.dn⟩
 have d:(p.op==1)=true:=by simpa using a
 rw[d,jm];clear a
 by_cases b:p.Nz=0
 case pos=>
  have f:(p.Nz !=0)=false:=by simpa using b
  rw[f,jA];clear b;go_enter func171,ntmps171;go_wp2;go_quiet (fail);go_wp2;go_ret;exact⟨rfl,h.al.dn⟩
 have f:(p.Nz !=0)=true:=by simpa using b
 rw[f,jm];clear b;have g:=fun n=>mE (Mw.dn (n:=n) (h.al (o:=.cells p.c 115)));go_enter func171,ntmps171;go_wp2;go_quiet (first|(go_at_call 74;exact bE (g _)));go_wp2;go_ret;exact⟨rfl,h.al.dn⟩
def S.other(s:S)(p:Ap):Bool:= !((p.k0.toNat:Int)==s.k0.toNat && (p.k1.toNat:Int)==s.k1.toNat && (p.k2.toNat:Int)==s.k2.toNat && (p.k3.toNat:Int)==s.k3.toNat && (p.k4.toNat:Int)==s.k4.toNat && (p.k5.toNat:Int)==s.k5.toNat)
def S.taken(s:S)(p:Ap):Bool:=s.st==3 && (p.oC==s.nZ && s.other p)
def Ng(h:Mx w0 P w B l s)(p:Ap):C_ 168 #[p_ B,.agg p.c] w (.bool (s.taken p)) fun u=>Mx w0 P u B l s:=by
 have r:=h.k;have a:=fun u=>oh.CU p.k0.toNat p.k1.toNat p.k2.toNat p.k3.toNat p.k4.toNat p.k5.toNat s.k0.toNat s.k1.toNat s.k2.toNat s.k3.toNat s.k4.toNat s.k5.toNat u;unfold S.taken S.other;generalize((p.k0.toNat:Int)==s.k0.toNat && (p.k1.toNat:Int)==s.k1.toNat && (p.k2.toNat:Int)==s.k2.toNat && (p.k3.toNat:Int)==s.k3.toNat && (p.k4.toNat:Int)==s.k4.toNat && (p.k5.toNat:Int)==s.k5.toNat)=bo at*
 cases h3:(s.st==3)<;>cases hf:(p.oC==s.nZ)<;>cases bo
 all_goals
  simp only[jA,jm,Bool.not_true,kg];go_enter func168,ntmps168;go_wp2;go_quiet (fail);go_wp2;go_ret;exact⟨rfl,h.al.dn⟩
abbrev S.um(s:S)(p:Ap):Nb:=⟨0,p.k0,p.k1,p.k2,p.k3,p.k4,p.k5,wrap64 (s.now+60),⟨#[]⟩⟩
noncomputable def S.learn (s:S) (p:Ap):S:=
 if p.oC=0∨p.oC=s.addr then s else
 if(s.cl.lookup p.oC).isSome=false/\s.asks p=false then s else
 if((s.cl.lookup p.oC).getD tu).load.toList.isEmpty then s.kp p.oC (s.um p)else(s.kp p.oC (s.um p)).send p.k 2048 ((s.cl.lookup p.oC).getD tu).load
abbrev S.tell(s:S)(p:Ap):S:=s.send p.k 2054 (xJ.uJ 2 s.card s.addr p.k p.oC)
abbrev aj4(s:S)(p:Ap):XV:=(rA 2 s.k0.toNat s.k1.toNat s.k2.toNat s.k3.toNat s.k4.toNat s.k5.toNat s.addr p.k0.toNat p.k1.toNat p.k2.toNat p.k3.toNat p.k4.toNat p.k5.toNat p.oC)
def yK(A:0<=s.addr/\s.addr<=4294967295)(p:Ap)(n:0<=p.oC/\p.oC<=4294967295):Ms 172 [.agg p.c] s (.tuple #[]) (s.tell p):=by
 intro w0 P w B l h;have m:=fun u=>xJ.qY 2 s.k0 s.k1 s.k2 s.k3 s.k4 s.k5 s.addr p.k0 p.k1 p.k2 p.k3 p.k4 p.k5 p.oC u (by decide) (by decide) A.1 A.2 n.1 n.2;have v:=zM 2 s.card rfl s.addr p.k rfl p.oC;unfold S.tell;rw[show xJ.uJ 2 [s.k0,s.k1,s.k2,s.k3,s.k4,s.k5] s.addr [p.k0,p.k1,p.k2,p.k3,p.k4,p.k5] p.oC=xJ.uJ 2 s.card s.addr p.k p.oC from rfl]at m;generalize xJ.uJ 2 s.card s.addr p.k p.oC=L at*;generalize xJ.GH 2=E at*;have r:=h.k;go_enter func172,ntmps172;go_wp2;go_cut [4] (fun z wc=>z=(p_ (w.heap.size+1))/\Mx w0 P wc B l s/\wc.heap[w.heap.size]?=some (.cells p.c 115 (0,0))/\wc.heap[w.heap.size+1]?=some (.cells (aj4 s p) 115 (0,0)));case first=>
  go_region_held3 (fun u=>Cl u B (cells l s)/\Cl u w.heap.size p.c) ((refine⟨Mw.cell (w0:=w0) (P:=P) (l:=l) (d:=s.toSd) ?_,fun j=> ?_⟩;(repeat with_reducible first|refine Mw.dr ?_|refine Mw.al ?_|exact h);exact af _ _ j _ _ _ (by first|exact ah w _|exact oh.nN w _ _)))
   (first|(go_at_call 74;refine on_ (mE (show Mx w0 P _ B l s from by repeat with_reducible first|refine Mw.dr ?_|refine Mw.al ?_|exact h)) fun u i=> ?_;subst i))
  all_goals
   go_wp2;go_meet;exact⟨rfl,by repeat with_reducible first|refine Mw.dr ?_|refine Mw.al ?_|exact h,oh.nN w _ _,oh.mK w _ _⟩
 rename kV=>x;obtain⟨rfl,a,b,o⟩:=hcut;have q:=bx o (h.out 1).1 a.base;have C:=bx b (h.out 0).1 a.base;go_wp2;go_region_held3 (fun u=>Bx (w.heap.size+1) (aj4 s p) u/\Bx w.heap.size p.c u) (exact⟨bx o (h.out 1).1 (by first|exact g|exact f|exact a.base.dr),bx b (h.out 0).1 (by first|exact g|exact f|exact a.base.dr)⟩)
  (first|(go_at_call 151;refine on_ (m _) fun u1 t=> ?_;have f:=a.base.dr.below t)|(go_at_call 150;refine on_ (xI _ _ _) fun u2 i=> ?_;subst i)|(go_at_call 149;refine qC (pF p.k0 p.k1 p.k2 p.k3 p.k4 p.k5 2054 L (by decide) (by decide) (aJ v (by decide))) f fun u3 y g D=> ?_))
 go_wp2;go_end0;exact⟨rfl,y,a.join g⟩
def RQ(o:s.Ok)(p:Ap)(G:0<=p.oC/\p.oC<=4294967295)(E:∀n,s.cl.lookup p.oC=some n->n.load.size<=262144):Ms 170 [.agg p.c] s (.tuple #[]) (s.learn p):=by
 intro w0 P w B l h;have r:=h.k
 by_cases f:p.oC=0
 case pos=>
  have I:(p.oC==0)=true:=by simpa using f
  rw[S.learn,aB (aG f)];clear f;go_enter func170,ntmps170;go_wp2;go_quiet (fail);go_wp2;go_returns
  exact⟨rfl,l,h.al.dn⟩
 have I:(p.oC==0)=false:=by simpa using f
 have y:=fun n=>mE (Mw.dn (n:=n) (h.al (o:=.cells p.c 115)))
 by_cases d:p.oC=s.addr
 case pos=>
  have J:(p.oC==s.addr)=true:=by simpa using d
  rw[S.learn,aB (aF d)];clear f d;go_enter func170,ntmps170;go_wp2;go_quiet (first|(go_at_call 74;exact bE (y _)));go_wp2;go_returns
  exact⟨rfl,l,h.al.dn⟩
 have J:(p.oC==s.addr)=false:=by simpa using d
 rw[S.learn,az (fun e=>e.elim f d)];clear f d;have z:∀ {u:kV},Mx w0 P u B l s->(Instr.lookup 86 (.map (some l.bm)) (E3 p.oC) true).run prog u=.ok (.tuple #[.agg (UY ((s.cl.lookup p.oC).getD tu)),.bool (s.cl.lookup p.oC).isSome]) u:=fun h=>h.look G;have H:((s.cl.lookup p.oC).getD tu).load.size<=262144:=by
  cases hk:s.cl.lookup p.oC with
  |none=>exact aR _
  |some n=>exact E n hk
 generalize(s.cl.lookup p.oC).getD tu=n at*;generalize(s.cl.lookup p.oC).isSome=b at*;have L:=fun k=>z (Mw.dn (n:=k) (h.al (o:=.cells p.c 115)));have M:=fun k q=>z (Mw.al (o:=q) (Mw.dn (n:=k) (h.al (o:=.cells p.c 115))));clear z E;have F:∀ {w0:kV} {P:Nat->Prop} {u:kV},Mx w0 P u B l s->C_ 120 #[.map (some l.bm),E3 p.oC,.agg (rN 0 p.k0.toNat p.k1.toNat p.k2.toNat p.k3.toNat p.k4.toNat p.k5.toNat (IntKind.i64.wrap (s.now+60)) ⟨#[]⟩)] u (.tuple #[]) fun u2=>Mw w0 P u2 B (cells l s) l {s.toSd with cl:=rq s.cl p.oC (s.um p)}:=fun h=>by rw[show IntKind.i64.wrap (s.now+60)=wrap64 (s.now+60)from by unfold wrap64;exact gG _];exact xu h G (s.um p)
 cases b
 case false=>
  by_cases v:s.asks p=true
  case neg=>
   have A:s.asks p=false:=by simpa using v
   rw[aB ⟨rfl,A⟩];have j:=fun {w0 P w B l} h=> @zy w0 P w B l s h p;rw[A]at j;clear v A;go_enter func170,ntmps170;go_wp2;go_quiet (first|(go_at_call 74;exact bE (y _)));go_wp2;go_region
   go_wp2_with (go_at_call 171;refine on_ (j (Mw.al (Mw.dn h.al))) fun u1 d=> ?_);go_returns
   exact⟨rfl,l,d⟩
  rw[az (fun e=>by rw[v]at e;cases e.2)];have j:=fun {w0 P w B l} h=> @zy w0 P w B l s h p;rw[v]at j;clear v
  cases hE:n.load.toList.isEmpty<;>simp only[aY,bI,bD]
  all_goals
   go_enter func170,ntmps170;go_wp2;go_quiet (first|(go_at_call 74;exact bE (y _)));go_wp2;go_region
   have g:=Mw.al (o:=.cells (UY n) 143) (Mw.dn (n:=nq+1) (h.al (o:=.cells p.c 115)));have i:=g.base;have m:(((w.alloc (.cells p.c 115)).drewN (nq+1)).alloc (.cells (UY n) 143)).heap[w.heap.size]?=some (.cells p.c 115 (0,0)):=oh.nN w _ _;have t:(((w.alloc (.cells p.c 115)).drewN (nq+1)).alloc (.cells (UY n) 143)).heap[w.heap.size+1]?=some (.cells (UY n) 143 (0,0)):=oh.mK w _ _;go_wp2_with (go_at_call 171;refine on_ (j i) fun u1 d=> ?_);go_region_held3 (fun u=>Cl u B (cells l s)/\Cl u w.heap.size p.c/\Cl u (w.heap.size+1) (UY n)) (exact⟨by first|exact a.cell|exact d.dr.cell,(bx m (h.out 0).1 (by first|exact a|exact d.dr)).1,(bx t (h.out 1).1 (by first|exact a|exact d.dr)).1⟩)
    (first|(go_at_call 120;refine on_ (F d.dr) fun u2 a=> ?_))
   have N:=(bx m (h.out 0).1 a).1;have O:=(bx t (h.out 1).1 a).1;go_wp2_with (go_at_call 149;refine qC (pF (s:=s.kp p.oC (s.um p)) p.k0 p.k1 p.k2 p.k3 p.k4 p.k5 2048 n.load (by omega) (by omega) H) ((g.join a).x rfl rfl) fun u3 D C R=> ?_);go_end0;first|exact⟨rfl,D,C⟩|exact⟨rfl,l,(g.join a).x rfl rfl⟩
 rw[az (fun e=>by cases e.1)]
 cases hE:n.load.toList.isEmpty<;>simp only[aY,bI,bD]
 all_goals
  go_enter func170,ntmps170;go_wp2;go_quiet (first|(go_at_call 74;exact bE (y _)));go_wp2;go_region
  have g:=Mw.al (o:=.cells (UY n) 143) (Mw.dn (n:=nq+1) (h.al (o:=.cells p.c 115)));have i:=g.base;have m:(((w.alloc (.cells p.c 115)).drewN (nq+1)).alloc (.cells (UY n) 143)).heap[w.heap.size]?=some (.cells p.c 115 (0,0)):=oh.nN w _ _;have t:(((w.alloc (.cells p.c 115)).drewN (nq+1)).alloc (.cells (UY n) 143)).heap[w.heap.size+1]?=some (.cells (UY n) 143 (0,0)):=oh.mK w _ _;go_wp2;go_region_held3 (fun u=>Cl u B (cells l s)/\Cl u w.heap.size p.c/\Cl u (w.heap.size+1) (UY n)) (exact⟨by first|exact a.cell|exact i.dr.cell,(bx m (h.out 0).1 (by first|exact a|exact i.dr)).1,(bx t (h.out 1).1 (by first|exact a|exact i.dr)).1⟩)
   (first|(go_at_call 120;refine on_ (F i.dr) fun u2 a=> ?_))
  have N:=(bx m (h.out 0).1 a).1;have O:=(bx t (h.out 1).1 a).1;go_wp2_with (go_at_call 149;refine qC (pF (s:=s.kp p.oC (s.um p)) p.k0 p.k1 p.k2 p.k3 p.k4 p.k5 2048 n.load (by omega) (by omega) H) ((g.join a).x rfl rfl) fun u3 D C R=> ?_);go_end0;first|exact⟨rfl,D,C⟩|exact⟨rfl,l,(g.join a).x rfl rfl⟩
noncomputable def S.TF (s:S) (p:Ap):S:=if s.taken p=true then s.decl else if s.asks p=true then(s.learn p).tell p else s.learn p
def Gv(s:S)(p:Ap):(s.learn p).addr=s.addr/\(s.Ok->(s.learn p).Ok):=by
 unfold S.learn
 split
 ·exact⟨rfl,id⟩
 split
 ·exact⟨rfl,id⟩
 split
 ·exact⟨rfl,id⟩
 exact⟨rfl,id⟩
def MX(o:s.Ok)(load:XB)(p:Ap)(k:Int)(t:0<=p.oC/\p.oC<=4294967295)(A:∀n,s.cl.lookup p.oC=some n->n.load.size<=262144)
  (m:∀u,C_ 167 #[.string load] u (.tuple #[.agg p.c,E4 k]) (y_ u)):
  Ms 140 [.string load] s (.tuple #[]) (if k=0 then s.TF p else s):=by
 intro w0 P w B l h
 by_cases i:k=0
 case neg=>
   as_aux_lemma=>
  have J:(k !=0)=true:=by simpa using i
  rw[az i];clear i;go_enter func140,ntmps140;go_wp2_with (go_at_call 167;refine on_ (m _) fun u1 a=> ?_);go_returns
  exact⟨rfl,l,(h.below a).al⟩
 subst i;rw[aB rfl];unfold S.TF;have b:=fun {w0 P w B l} h=> @Ng w0 P w B l s h p
 cases ht:s.taken p
 case true=>
   as_aux_lemma=>
  rw[ht]at b;simp only[bI];go_enter func140,ntmps140;go_wp2_with (first|(go_at_call 167;refine on_ (m _) fun u1 a=> ?_)|(go_at_call 168;refine on_ (b (h.below a).al) fun u2 f=> ?_)|(go_at_call 169;refine qC (KM o) f fun u3 r g E=> ?_));go_returns
  exact⟨rfl,r,g⟩
 rw[ht]at b;simp only[aY,bD];have j:=fun {w0 P w B l} h=> @zy w0 P w B l (s.learn p) h p;have e:(s.learn p).asks p=s.asks p:=by unfold S.asks;rw[(Gv s p).1]
 have v:= @RQ s o p t A;have C:0<=(s.learn p).addr/\(s.learn p).addr<=4294967295:=by rw[(Gv s p).1];exact t_ o
 rw[e]at j;generalize s.learn p=z at*
 cases hq:s.asks p
 all_goals
   as_aux_lemma=>
  rw[hq]at j;simp only[aY,bI,bD];go_enter func140,ntmps140;go_wp2_with (first|(go_at_call 167;refine on_ (m _) fun u1 a=> ?_;have d:=(h.below a).al (o:=.cells p.c 115);have F:=(bx (ah u1 (.cells p.c 115)) ((h.below a).out 0).1 d.base).1)|(go_at_call 168;refine on_ (b d.base) fun u2 f=> ?_;have G:=(bx (ah u1 _) ((h.below a).out 0).1 f).1)|(go_at_call 170;refine qC v f fun u3 r g E=> ?_;have H:=(bx (ah u1 _) ((h.below a).out 0).1 g).1)|(go_at_call 171;refine on_ (j g) fun u4 q=> ?_;have I:=(bx (ah u1 _) ((h.below a).out 0).1 q).1)|(go_at_call 172;refine qC (yK C p t) q fun u5 D y L=> ?_));go_end0;first|exact⟨rfl,D,d.join y⟩|exact⟨rfl,r,d.join q⟩
end Nu
end Go.Proofs.YtnbaacgmlbhhcaaGreatDoor
