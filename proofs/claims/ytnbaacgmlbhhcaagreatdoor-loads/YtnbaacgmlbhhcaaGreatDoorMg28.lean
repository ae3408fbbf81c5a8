import Derived.Test.YtnbaacgmlbhhcaaGreatDoorMg21
import Derived.Test.YtnbaacgmlbhhcaaGreatDoorMg27
set_option linter.all false
set_option maxHeartbeats 8000000
set_option maxRecDepth 20000
open Go.ChangeShapes Go.WideShapes Go.ChangeAt Go.RowKit
open Go.Proofs.Tryz
namespace Go.Proofs.YtnbaacgmlbhhcaaGreatDoor
namespace Nu
open Bs
open Dh (lU heavy data At lQ)
open sQ (four)
variable{w0 w w' x y:World}{P:Nat->Prop}{B sc:Nat}{cs:XV}{l l':Lc}{s s':S}{v v':Value}{sa:XO}{os:lU}
def ui(os:lU)(c:UInt8):Option UInt8:=match data os c with
 |[x]=>some x
 |_=>none
def QU(c:UInt8)(d:heavy os<=268435456)(b:At w sa os):C_ 214 #[.slice sa os.length sc,E8 c.toNat] w (.tuple #[E8 ((ui os c).getD 0).toNat,.bool (ui os c).isSome]) (y_ w):=by
 unfold ui
 split
 ·rename_i x a;exact sQ.aa1 sa sc os c x w b d a
 rename_i hn;exact sQ.ah1 sa sc os c w b d (fun e=>by obtain⟨x,a⟩:=ky.1 e;exact hn x a)
def TG(c:UInt8)(g:heavy os<=268435456)(f:At w sa os):C_ 215 #[.slice sa os.length sc,E8 c.toNat] w (.tuple #[E3 ((four (data os c)).getD 0),.bool (four (data os c)).isSome]) (y_ w):=by
 unfold four
 split
 ·rename_i a b c' d hx;exact sQ.Qt sa sc os c a b c' d w f g hx
 rename_i hn;exact sQ.Qm sa sc os c w f g (fun e=>by
  match hd:data os c,e with
  |[a,b,c',d],_=>exact hn a b c' d hd)
abbrev Rp.d(p:Rp):XV:=(rE p.mr p.lM p.cl p.yo p.ne p.k0.toNat p.k1.toNat p.k2.toNat p.k3.toNat p.k4.toNat p.k5.toNat p.sa p.n p.sc)
def pG(a b c d e f a' b' c' d' e' f':UInt8):Bool:=(a.toNat:Int)==a'.toNat && (b.toNat:Int)==b'.toNat && (c.toNat:Int)==c'.toNat && (d.toNat:Int)==d'.toNat && (e.toNat:Int)==e'.toNat && (f.toNat:Int)==f'.toNat
def qZ(a b c d e f a' g c' d' i j:UInt8)(u:World):(Op.equalIn 10000 26 (.agg (rM a.toNat b.toNat c.toNat d.toNat e.toNat f.toNat)) (.agg (rM a'.toNat g.toNat c'.toNat d'.toNat i.toNat j.toNat))).run prog u=.ok (pG a b c d e f a' g c' d' i j) u:=oh.CU _ _ _ _ _ _ _ _ _ _ _ _ u
def S.Dx(s:S)(p:Rp):Bool:=p.mr && !(p.lM !=s.lM) && pG p.k0 p.k1 p.k2 p.k3 p.k4 p.k5 s.k0 s.k1 s.k2 s.k3 s.k4 s.k5
def S.mr(s:S)(p:Rp)(os:lU)(k v:Int):S:=if k=2 then s.offer p.yo v else if k=5 then s.WR p.yo v (tq os p.ne v).1 (tq os p.ne v).2 else if k=6 then s.Sc v else s
def S.GZ(s:S)(p:Rp)(os:lU):S:=if s.Dx p=true/\(ui os 53).isSome=true/\(four (data os 54)).isSome=true then s.mr p os ((ui os 53).getD 0).toNat ((four (data os 54)).getD 0)else s
def qL(xs:XU):0<=(four xs).getD 0/\(four xs).getD 0<=4294967295:=by
 unfold four
 split
 ·rename_i a b c d
  have:=a.toNat_lt;have:=b.toNat_lt;have:=c.toNat_lt;have:=d.toNat_lt;simp only[eD];omega
 simp
def ways(k:Int)(a b c:Bool):(k !=0)=true∨(k !=0)=false/\(a=false∨a=true/\(b=true∨b=false/\(c=false∨c=true))):=by cases (k !=0)<;>cases a<;>cases b<;>cases c<;>simp
def JK(o:s.Ok)(load:XB)(p:Rp)(hy:0<=p.yo/\p.yo<=4294967295)(k:Int)(X:heavy os<=268435456)(h3:(data os 3).length<=maxLen)
  (T:∀u,D_ 213 #[.string load] u fun e u'=>DhR.JI os.length (lQ os) u (fun sa sc=>.tuple #[.agg (Rp.d {p with sa:=sa,n:=os.length,sc:=sc}),E4 k]) e u'):
  Ms 175 [.string load] s (.tuple #[]) (if k=0 then s.GZ p os else s):=by
 intro w0 P w B l h;obtain⟨mr,lM,y,t,r,a,f,g,i,j,m,Z,n0,sc0,sv0⟩:=p;dsimp only at hy T;have HQ:=fun u=>qZ a f g i j m s.k0 s.k1 s.k2 s.k3 s.k4 s.k5 u;have N:s.Dx ⟨mr,lM,y,t,r,a,f,g,i,j,m,Z,n0,sc0,sv0⟩=(mr && !(lM !=s.lM) && pG a f g i j m s.k0 s.k1 s.k2 s.k3 s.k4 s.k5):=rfl;generalize pG a f g i j m s.k0 s.k1 s.k2 s.k3 s.k4 s.k5=q at N HQ;have O:∀ {w sa sc},At w sa os->D_ 214 #[.slice sa os.length sc,E8 53] w _:=fun h=>QU 53 X h;have U:∀ {w sa sc},At w sa os->D_ 215 #[.slice sa os.length sc,E8 54] w _:=fun h=>TG 54 X h;have hv:=qL (data os 54);unfold S.GZ;generalize(ui os 53)=bo at*;generalize(four (data os 54))=vo at*
 rcases ways k mr (lM !=s.lM) q with W|⟨W,rfl|⟨rfl,e2|⟨e2,rfl|rfl⟩⟩⟩
 case inr.inr.inr.inr=>
  have F:k=0:=by simpa using W
  simp only[F,N,e2,kg,Bool.and_self,gM,bI];clear N F;have hw:∀b:UInt8,IntKind.u16.wrap (b.toNat:Int)=(b.toNat:Int):=fun b=>by
   have:=b.toNat_lt;rw[bB];omega
  generalize hv':vo.getD 0=v at*;generalize bo.getD 0=b at*;clear hv'
  cases e3:bo.isSome<;>cases e4:vo.isSome
  all_goals simp only[e3,e4,aY,iX,and_false,bI,bD]at O U ⊢
  case true.true=>
   go_enter func175,ntmps175;go_wp2_with (go_at_call 213;refine(T _).mono ?_;rintro _ u1 ⟨sa,sc,rfl,E,M⟩;have z:=h.below M;have r1:=z.k;have V:At u1 sa os:=Dh.At.own E);go_quiet (fail);have H:=Mw.dn (n:=nq) (z.al (o:=.cells (Rp.d (⟨true,lM,y,t,r,a,f,g,i,j,m,sa,os.length,sc,0⟩:Rp)) 127)).base;have J:=V.below (w':=(u1.alloc (.cells (Rp.d (⟨true,lM,y,t,r,a,f,g,i,j,m,sa,os.length,sc,0⟩:Rp)) 127)).drewN nq) ⟨rfl,rfl,rfl,by simp,fun k F=>aO _ _ _ F⟩ (ae _);have G:∀ {u d' l'},Mw (u1.alloc (.cells (Rp.d (⟨true,lM,y,t,r,a,f,g,i,j,m,sa,os.length,sc,0⟩:Rp)) 127)) (lI B l) u B (cells l' d') l' d'.toSd->Cl u u1.heap.size (Rp.d (⟨true,lM,y,t,r,a,f,g,i,j,m,sa,os.length,sc,0⟩:Rp)):=fun h=>(bx (ah u1 _) (z.out 0).1 h).1;go_wp2_with (first|(go_at_call 214;refine on_ (O J) fun u2 C=> ?_;have L:=H.below C;have c2:=G L;have I:=J.below C (ae _))|(go_at_call 215;refine on_ (U I) fun u3 D=> ?_;have A:=L.below D;have c3:=G A;have a3:=I.below D (ae _)));have HO:Does (fun _ _ u=>At u sa os) 255 (.agg (Rp.c (⟨true,lM,y,t,r,a,f,g,i,j,m,sa,os.length,sc,v⟩:Rp))) s (s.offer t v):=by intro w0 P w B l h _;exact GQ o (⟨true,lM,y,t,r,a,f,g,i,j,m,sa,os.length,sc,v⟩:Rp) hy hv h
   have HA:Does (fun _ _ u=>At u sa os) 256 (.agg (Rp.c (⟨true,lM,y,t,r,a,f,g,i,j,m,sa,os.length,sc,v⟩:Rp))) s (s.WR t v (tq os r v).1 (tq os r v).2):=by intro w0 P w B l h hR;exact Nf h o (⟨true,lM,y,t,r,a,f,g,i,j,m,sa,os.length,sc,v⟩:Rp) hv _ _ (fun u Y=>RO (⟨true,lM,y,t,r,a,f,g,i,j,m,sa,os.length,sc,v⟩:Rp) os rfl hR X h3 u Y)
   have HN:Does (fun _ _ u=>At u sa os) 257 (.agg (Rp.c (⟨true,lM,y,t,r,a,f,g,i,j,m,sa,os.length,sc,v⟩:Rp))) s (s.Sc v):=by intro w0 P w B l h _;exact Lb (⟨true,lM,y,t,r,a,f,g,i,j,m,sa,os.length,sc,v⟩:Rp) h
   have hA:∀(_:Nat) (_:Lc) u o,At u sa os->At (u.alloc o) sa os:=fun _ _ u o h=>h.below ((aK _ _).alloc (ae _) o) (ae _);have a4:At u3.drew sa os:=a3.below ⟨rfl,rfl,rfl,ae _,fun _ _=>rfl⟩ (ae _);go_region_held3 (Cl · u1.heap.size (Rp.d (⟨true,lM,y,t,r,a,f,g,i,j,m,sa,os.length,sc,0⟩:Rp))) (exact G (by first|exact h5|exact h4|exact A.dr))
    (first|(go_at_call 217;refine on_ (Gs _) fun u4 Y=> ?_;subst Y;have h4:=A.dr.al (o:=.cells Pz 299))|(go_at_call 216;refine on_ (KF (R:=fun _ _ u=>At u sa os) hA h4 (hA 0 l _ _ a4) (ah _ _) (A.dr.out 0).1 _ (⟨true,lM,y,t,r,a,f,g,i,j,m,sa,os.length,sc,v⟩:Rp) HO HA HN) fun u5 ⟨l5,h5⟩=> ?_))
   go_wp2;first|go_end0|go_returns
   exact⟨rfl,l5,z.al.join h5⟩
  all_goals
   go_enter func175,ntmps175;go_wp2_with (go_at_call 213;refine(T _).mono ?_;rintro _ u1 ⟨sa,sc,rfl,E,M⟩;have z:=h.below M;have r1:=z.k;have V:At u1 sa os:=Dh.At.own E);go_quiet (fail);have H:=Mw.dn (n:=nq) (z.al (o:=.cells (Rp.d (⟨true,lM,y,t,r,a,f,g,i,j,m,sa,os.length,sc,0⟩:Rp)) 127)).base;have J:=V.below (w':=(u1.alloc (.cells (Rp.d (⟨true,lM,y,t,r,a,f,g,i,j,m,sa,os.length,sc,0⟩:Rp)) 127)).drewN nq) ⟨rfl,rfl,rfl,by simp,fun k F=>aO _ _ _ F⟩ (ae _);have G:∀ {u d' l'},Mw (u1.alloc (.cells (Rp.d (⟨true,lM,y,t,r,a,f,g,i,j,m,sa,os.length,sc,0⟩:Rp)) 127)) (lI B l) u B (cells l' d') l' d'.toSd->Cl u u1.heap.size (Rp.d (⟨true,lM,y,t,r,a,f,g,i,j,m,sa,os.length,sc,0⟩:Rp)):=fun h=>(bx (ah u1 _) (z.out 0).1 h).1;go_wp2_with (first|(go_at_call 214;refine on_ (O J) fun u2 C=> ?_;have L:=H.below C;have c2:=G L;have I:=J.below C (ae _))|(go_at_call 215;refine on_ (U I) fun u3 D=> ?_;have A:=L.below D;have c3:=G A;have a3:=I.below D (ae _)));first|go_end0|go_returns
   exact⟨rfl,l,z.al.join A⟩
 all_goals
  try have F: ¬k=0:=by simpa using W
  simp only[N,jA,Bool.and_false,Bool.not_true,aY,f_,bD,ite_self, *];try clear F
  clear N O U;go_enter func175,ntmps175;go_wp2_with (go_at_call 213;refine(T _).mono ?_;rintro _ u1 ⟨sa,sc,rfl,E,M⟩;have z:=h.below M;have r1:=z.k);go_quiet (fail);go_wp2;go_returns
  exact⟨rfl,l,z.al.dn⟩
end Nu
end Go.Proofs.YtnbaacgmlbhhcaaGreatDoor
