import Derived.Test.YtnbaacgmlbhhcaaGreatDoorMg05
import Derived.Deep.RegionHeldLaw
set_option linter.all false
set_option maxHeartbeats 8000000
set_option maxRecDepth 10000
open Go.ChangeShapes Go.WideShapes Go.ChangeAt Go.RowKit
open Go renaming World → kV
open Go.RowKit renaming Below → kZ
open Go.Proofs.Tryz
namespace Go.Proofs.YtnbaacgmlbhhcaaGreatDoor
namespace Ud
open Bs Rb Wt xJ
open Ip (uM CJ)
def AR(a b n:Int)(w:kV)(k:0<=a/\a<=4294967295)(l:0<=b/\b<=4294967295)(s:0<=n/\n<=65535):
  C_ 105 #[E3 a,E3 b,E4 n] w (.string ⟨(qN a b n).toArray⟩) (y_ w):=by
 have p:=ll (Au a w k.1 k.2);have q:=ll (fun u=>Au b u l.1 l.2);have r:=ll (fun u=>sK n u s.1 (by omega));have j:(⟨(qN a b n).toArray⟩:XB)=(⟨#[lV (a/256/256/256),lV (a/256/256),lV (a/256),lV a]⟩:XB)++⟨#[lV (b/256/256/256),lV (b/256/256),lV (b/256),lV b]⟩++⟨#[0,17]⟩++⟨#[lV (n/256),lV n]⟩:=by
  rw[qN,<-FV a,<-FV b];apply bg;apply bL;simp[bO,Ca,mf]
 rw[j];clear j;go_enter func105,ntmps105;go_wp2_with fail;refine on_ p fun v f=>?_;have c:=ll f;clear f;go_wp2_with fail;refine on_ (q _) fun y g=>?_;have d:=ll g;clear g;go_wp2_with fail;refine on_ (r _) fun z i=>?_;have o:=ll i;clear i;go_wp2;go_ret;have m:=c.size;have t:=d.size;exact⟨rfl,(c.trans (d.mono m)).trans (o.mono (aJ m t))⟩
def below_drewN{N:Nat}{a w:kV}(h:kZ N a w)(n:Nat):kZ N a (w.drewN n):=⟨h.os,h.tape,h.output,h.size,h.block⟩
def ad7(f t g i:Int)(load:XB)(w:kV)(H:0<=f/\f<=65535)(R:0<=t/\t<=65535)(X:0<=g/\g<=4294967295)(Z:0<=i/\i<=4294967295)(hl:load.size<=1472):
  C_ 136 #[.agg (rG f t load),E3 g,E3 i] w (.tuple #[.string ⟨(CB f t g i load).toArray⟩,E4 0]) (y_ w):=by
 have hq1:IntKind.i64.wrap (8+(load.size:Int))=8+(load.size:Int):=wrap_i64 _ (by omega) (by omega);have hq2:IntKind.i64.wrap f=f:=wrap_i64 _ (by omega) (by omega);have hq3:IntKind.i64.wrap t=t:=wrap_i64 _ (by omega) (by omega);have b2: ¬(1480:Int)<8+(load.size:Int):=by omega
 obtain⟨c,r⟩:=ex_ (CS f t g i load);have U:=CJ (qN g i (8+load.size)++wG f t load);rw[show uM (qN g i (8+load.size)++wG f t load)=CS f t g i load from rfl,<-r]at U;obtain⟨a9,b0⟩:=U;have Y:=ll r;obtain⟨j,I⟩:∃j:XB,j=⟨(qN g i (8+(load.size:Int))).toArray⟩:=⟨_,rfl⟩;have o:=ll (fun u=>AR g i (8+(load.size:Int)) u X Z (by omega));rw[<-I]at o;have O:j.size=12:=by rw[I];rfl
 obtain⟨a,q⟩:∃a:XB,a=⟨#[lV (f/256),lV f]⟩++⟨#[lV (t/256),lV t]⟩++⟨#[lV ((8+(load.size:Int))/256),lV (8+(load.size:Int))]⟩:=⟨_,rfl⟩;have J:a.size=6:=by rw[q];rfl
 have l:(j++a).size=18:=by rw[bA,O,J]
 have m:(j++a++⟨#[0,0]⟩).size=20:=by rw[bA,l];rfl
 have s:(j++a++⟨#[0,0]⟩++load).size=20+load.size:=by rw[bA,m]
 have a2:=fun u=>bu (P:=prog) u j a (by rw[O,J];omega);have a4:=fun u=>bu (P:=prog) u (j++a) ⟨#[0,0]⟩ (by rw[l];show 18+2<=_;omega);have a6:=fun u=>bu (P:=prog) u (j++a++⟨#[0,0]⟩) load (by rw[m];omega);have z:Hid (∀u:kV,C_ 104 #[.string (j++a++⟨#[0,0]⟩++load)] u (E4 c) fun w'=>∃n,w'=u.drewN n):=ll (fun u=>by
  have h:=Ar.uX (j++a++⟨#[0,0]⟩++load) u (by rw[s];omega)
  have e:65535-Ar.fold (Ar.o_ (j++a++⟨#[0,0]⟩++load).data.toList)=c:=by
   have F:(j++a++⟨#[0,0]⟩++load).data.toList=qN g i (8+load.size)++wG f t load:=by
    rw[q,I];simp[bO,wG,mf];rfl
   rw[F];exact Y.symm
  rw[e]at h
  exact h)
 rcases Decidable.em (c=0)with hz|hz
 focus
  have D:(c==0)=true:=by simpa using hz
  have k:=ll (fun u=>sK 65535 u (by omega) (by omega));obtain⟨G,p⟩:∃G:XB,G=⟨#[lV (65535/256),lV 65535]⟩:=⟨_,rfl⟩;have B:NT f t g i load=65535:=by rw[NT,<-r,aB hz]
 rotate_left
 focus
  have D:(c==0)=false:=by simpa using hz
  have k:=ll (fun u=>sK c u (by omega) (by omega));obtain⟨G,p⟩:∃G:XB,G=⟨#[lV (c/256),lV c]⟩:=⟨_,rfl⟩;have B:NT f t g i load=c:=by rw[NT,<-r,az hz]
 all_goals
  rw[<-p]at k;have M:G.size=2:=by rw[p];rfl
  have v:(a++G).size=8:=by rw[bA,J,M]
  have a7:=fun u=>bu (P:=prog) u a G (by rw[J,M];omega);have a8:=fun u=>bu (P:=prog) u (a++G) load (by rw[v];omega);have W:Hid (a++G++load=⟨(CB f t g i load).toArray⟩):=ll (by
   rw[CB,B,q,p]
   apply bg
   apply bL
   simp[bO,wG,mf,Cq])
  clear B p M hz;have C:=ll q;clear I l m s v O q;clear r;obtain⟨L,N⟩:=H;obtain⟨T,V⟩:=R;go_enter func136,ntmps136;go_wp2;go_region_held3 (fun u=>u.cell? (n_ w 0)=some (E6 f)/\u.cell? (n_ w 1)=some (E6 t)/\u.cell? (n_ w 2)=some (.string load)) (go_keep)
   (first|(go_at_call 131;refine(sK _ _ (by omega) (by omega)).mono ?_;rintro ee u1 ⟨rfl,d⟩;have b:kZ (w.heap.size+1) (w.alloc (.cells (rG f t load) 98)) u1:=(by first|exact((aK _ _).drew).trans (d.mono (by simp))|exact b.trans (d.mono (Ip.sizes b))|exact b.drew.trans (d.mono (Ip.sizes b.drew)));have A:=Ip.qI b;have E:=Ip.sizes b;clear d))
  go_wp2;rw[<-lq C];go_region_held3 (fun u=>u.cell? (n_ w 0)=some (E6 f)/\u.cell? (n_ w 1)=some (E6 t)/\u.cell? (n_ w 2)=some (.string load)) (go_keep)
   (first|(go_at_call 105;refine(o _).mono ?_;rintro ee u1 ⟨rfl,d⟩;have b:kZ (w.heap.size+1) (w.alloc (.cells (rG f t load) 98)) u1:=(by first|exact((aK _ _).drew).trans (d.mono (by simp))|exact b.trans (d.mono (Ip.sizes b))|exact b.drew.trans (d.mono (Ip.sizes b.drew)));have A:=Ip.qI b;have E:=Ip.sizes b;clear d)|(go_at_call 104;refine(z _).mono ?_;rintro ee u1 ⟨rfl,nn,y⟩;have b:kZ (w.heap.size+1) (w.alloc (.cells (rG f t load) 98)) u1:=(by rw[y];exact below_drewN b nn);have A:=Ip.qI b;have E:=Ip.sizes b;clear y))
  go_wp2;go_region_held3 (fun u=>u.cell? (n_ w 0)=some (E6 f)/\u.cell? (n_ w 1)=some (E6 t)/\u.cell? (n_ w 2)=some (.string load)) (go_keep)
   (first|(go_at_call 131;refine(k _).mono ?_;rintro ee u1 ⟨rfl,d⟩;have b:kZ (w.heap.size+1) (w.alloc (.cells (rG f t load) 98)) u1:=(by first|exact((aK _ _).drew).trans (d.mono (by simp))|exact b.trans (d.mono (Ip.sizes b))|exact b.drew.trans (d.mono (Ip.sizes b.drew)));have A:=Ip.qI b;have E:=Ip.sizes b;clear d))
  go_wp2;go_ret2;refine⟨Ip.sM W,?_⟩;exact b1_.trans (b.mono (by omega))
def pE(f t a b:Int)(load:XB)(w:kV)(i:0<=f/\f<=65535)(j:0<=t/\t<=65535)(k:0<=a/\a<=4294967295)(l:0<=b/\b<=4294967295)(n:load.size<=262144):
  C_ 136 #[.agg (rG f t load),E3 a,E3 b] w (.tuple #[.string (xM f t a b load),E4 (Fb load)]) (y_ w):=by
 by_cases c:load.size<=1472
 ·have d:xM f t a b load=⟨(CB f t a b load).toArray⟩:=by simp[xM,c]
  have g:Fb load=0:=by simp[Fb,c]
  rw[d,g];exact ad7 f t a b load w i j k l c
 have d:xM f t a b load=⟨#[]⟩:=by simp[xM,c]
 have g:Fb load=7:=by simp[Fb,c]
 rw[d,g];have m:IntKind.i64.wrap (8+(load.size:Int))=8+(load.size:Int):=wrap_i64 _ (by omega) (by omega);have A:(1480:Int)<8+(load.size:Int):=by omega
 clear d g c;go_enter func136,ntmps136;go_wp2;go_ret2;exact⟨rfl,(aK _ _).alloc (ae _) _⟩
end Ud
namespace Ip
open Bs Rb Wt xJ
def V3{w u:kV}{o a:Obj}(h:kZ (w.heap.size+1) (w.alloc o) u):kZ (w.heap.size+1) (w.alloc o) (u.alloc a):=h.alloc (sizes h) _
def Y8{w u:kV}{o:Obj}(h:kZ (w.heap.size+1) (w.alloc o) u):kZ (w.heap.size+1) (w.alloc o) u.drew:=h.drew
def ay9{w u a:kV}{o:Obj}(h:kZ (w.heap.size+1) (w.alloc o) u)(b:y_ u a):kZ (w.heap.size+1) (w.alloc o) a:=h.trans (b.mono (sizes h))
def Vb{u a:kV}(h:y_ u a)(b o:Nat)(c:b<u.heap.size):a.cell? (a_ b o)=u.cell? (a_ b o):=h.cell (p:=(a_ b o)) c
def F9(id nS l i k:Int)(load:XB)(w:kV)(X:0<=id/\id<=65535)(ht:0<nS/\nS<=255)(hp:0<=l/\l<=255)(R:0<=i/\i<=4294967295)(ho:0<=k/\k<=4294967295)(hl:load.size<=1480):
  C_ 137 #[.agg (rI id nS l i k load)] w (.tuple #[.string ⟨(Zv id nS l i k load).toArray⟩,E4 0]) (y_ w):=by
 have b2:(nS==0)=false:=by simp;omega
 have b0: ¬(1480:Int)<(load.size:Int):=by omega
 have hq1:IntKind.i64.wrap (20+(load.size:Int))=20+(load.size:Int):=wrap_i64 _ (by omega) (by omega);have hq2:IntKind.i64.wrap id=id:=wrap_i64 _ (by omega) (by omega);have H:0<=nS/\nS<=255:=by omega
 obtain⟨Z,hi1⟩:=X;obtain⟨T,V⟩:=R;obtain⟨ho0,ho1⟩:=ho;obtain⟨a,r⟩:∃a:XB,a=⟨#[69,0,lV ((20+(load.size:Int))/256),lV (20+(load.size:Int)),lV (id/256),lV id,64,0,lV nS,lV l]⟩:=⟨_,rfl⟩;obtain⟨b,s⟩:∃b:XB,b=⟨#[lV (i/256/256/256),lV (i/256/256),lV (i/256),lV i]⟩++⟨#[lV (k/256/256/256),lV (k/256/256),lV (k/256),lV k]⟩:=⟨_,rfl⟩;have I:a.size=10:=by rw[r];rfl
 have J:b.size=8:=by rw[s];rfl
 have o:(a++⟨#[0,0]⟩).size=12:=by rw[bA,I];rfl
 have t:(a++⟨#[0,0]⟩++b).size=20:=by rw[bA,o,J]
 obtain⟨c,z⟩:=ex_ (uM (rY (20+load.size) id nS l i k 0));have C:=CJ (rY (20+load.size) id nS l i k 0);rw[<-z]at C;obtain⟨a7,a8⟩:=C;have p:(a++⟨#[lV (c/256),lV c]⟩).size=12:=by rw[bA,I];rfl
 have v:(a++⟨#[lV (c/256),lV c]⟩++b).size=20:=by rw[bA,p,J]
 have O:=fun u=>bu (P:=prog) u a ⟨#[0,0]⟩ (by rw[I];show 10+2<=_;omega);have U:=fun u=>bu (P:=prog) u (a++⟨#[0,0]⟩) b (by rw[o,J];omega);have W:=fun u=>bu (P:=prog) u a ⟨#[lV (c/256),lV c]⟩ (by rw[I];show 10+2<=_;omega);have Y:=fun u=>bu (P:=prog) u (a++⟨#[lV (c/256),lV c]⟩) b (by rw[p,J];omega);have F:=fun u=>bu (P:=prog) u (a++⟨#[lV (c/256),lV c]⟩++b) load (by rw[v];omega);have q:Hid (∀u:kV,C_ 104 #[.string (a++⟨#[0,0]⟩++b)] u (E4 c) fun w'=>∃n,w'=u.drewN n):=ll (fun u=>by
  have h:=Ar.uX (a++⟨#[0,0]⟩++b) u (by rw[t];omega)
  have e:65535-Ar.fold (Ar.o_ (a++⟨#[0,0]⟩++b).data.toList)=c:=by
   have L:(a++⟨#[0,0]⟩++b).data.toList=rY (20+load.size) id nS l i k 0:=by
    rw[r,s,rY,<-FV i,<-FV k];simp[bO,mf,Ca];decide
   rw[L,z];rfl
  rw[e]at h
  exact h)
 have M:Hid (a++⟨#[lV (c/256),lV c]⟩++b++load=⟨(Zv id nS l i k load).toArray⟩):=ll (by
  rw[Zv,<-z,r,s,rY,<-FV i,<-FV k]
  apply bg
  apply bL
  simp[bO,mf,Ca]
  decide)
 have D:=ll r;have G:=ll s;clear o t p v z r s;go_enter func137,ntmps137;go_wp2;go_cut [4] (fun s4 wc=>s4=.string ⟨#[69,0,lV ((20+(load.size:Int))/256),lV (20+(load.size:Int)),lV (id/256),lV id,64,0,lV nS,lV l]⟩/\kZ (w.heap.size+1) (w.alloc (.cells (rI id nS l i k load) 120)) wc);case first=>
  clear O U W Y F q M;have m:=aK (w.heap.size+1) (w.alloc (.cells (rI id nS l i k load) 120));have a9:=fun u g=>PQ u g nS l H hp;go_region_held_law (fun u=>∀j,u.cell? (n_ w j)=(rI id nS l i k load)[j]?) ((refine qI (?_:kZ (w.heap.size+1) (w.alloc (.cells (rI id nS l i k load) 120)) _);repeat with_reducible first|exact d|exact m|refine Y8 ?_|refine V3 ?_))
   (first|(go_at_call 131;refine(sK _ _ (by omega) (by omega)).mono ?_;rintro ee u1 ⟨rfl,f⟩;have N:=Vb f;have B:=f.size;(try simp at B);(try have hy1:w.heap.size+1<u1.heap.size:=by omega);have d:kZ (w.heap.size+1) (w.alloc (.cells (rI id nS l i k load) 120)) u1:=ay9 (by repeat with_reducible first|exact d|exact m|refine Y8 ?_|refine V3 ?_) f;clear f))
  all_goals
   go_wp2;go_meet;exact⟨dF Value.string (bg (bL (by simp[bO]))),by repeat with_reducible first|exact d|exact m|refine Y8 ?_|refine V3 ?_⟩
 obtain⟨rfl,d⟩:=hcut;rename kV=>wc;rw[<-lq D];have A:=qI d;have E:=sizes d;go_wp2;go_region_held3 (fun u=>u.cell? (n_ w 3)=some (E3 i)/\u.cell? (n_ w 4)=some (E3 k)) (go_keep)
  (first|(go_at_call 91;refine(Au _ _ (by omega) (by omega)).mono ?_;rintro ee u1 ⟨rfl,f⟩;have d:kZ (w.heap.size+1) (w.alloc (.cells (rI id nS l i k load) 120)) u1:=(by first|exact d.trans (f.mono (sizes d))|exact d.drew.trans (f.mono (sizes d.drew)));have A:=qI d;have E:=sizes d;clear f))
 rw[<-lq G];go_wp2;go_region_held3 (fun u=>u.cell? (n_ w 5)=some (.string load)) (go_keep)
  (first|(go_at_call 104;refine(q _).mono ?_;rintro ee u1 ⟨rfl,nn,y⟩;have d:kZ (w.heap.size+1) (w.alloc (.cells (rI id nS l i k load) 120)) u1:=(by rw[y];exact Ud.below_drewN d.drew nn);have A:=qI d;have E:=sizes d;clear y)|(go_at_call 131;refine(sK _ _ (by omega) (by omega)).mono ?_;rintro ee u1 ⟨rfl,f⟩;have d:kZ (w.heap.size+1) (w.alloc (.cells (rI id nS l i k load) 120)) u1:=(by first|exact d.trans (f.mono (sizes d))|exact d.drew.trans (f.mono (sizes d.drew)));have A:=qI d;have E:=sizes d;clear f))
 go_wp2;go_ret2;refine⟨sM M,?_⟩;exact b1_.trans (d.mono (by omega))
end Ip
end Go.Proofs.YtnbaacgmlbhhcaaGreatDoor
