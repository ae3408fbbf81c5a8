import Derived.Test.YtbhbbeebncmaiaaGreatDoorMg25
set_option linter.all false
set_option maxHeartbeats 8000000
set_option maxRecDepth 10000
open Go.ChangeShapes Go.WideShapes Go.ChangeAt Go.RowKit
open Go renaming World → fV, Calls → f_
open Go.RowKit renaming Below → gm
open Go.Proofs.Tryz renaming prog → Vh
open Go.Value renaming int → Vb
open Go.IntKind renaming u8 → Vd, u16 → Ve, u32 → Vf, i64 → Vg
open Go.Proofs.Tryz
namespace Go.Proofs.YtbhbbeebncmaiaaGreatDoor
namespace Ud
open Bs Rb Wt rO
open Ip (lS uX)
theorem qH(fr ta n:Int)(w:fV)(hf:0<=fr/\fr<=4294967295)(ho:0<=ta/\ta<=4294967295)(hn:0<=n/\n<=65535):
  f_ Vh 105 #[Vb Vf fr,Vb Vf ta,Vb Vg n] w fun ee w'=>ee=.returned (.string ⟨(kR fr ta n).toArray⟩)/\gm w.heap.size w w':=by
 have H1:=gu (pW fr w hf.1 hf.2)
 have H2:=gu (fun u=>pW ta u ho.1 ho.2)
 have H3:=gu (fun u=>jG n u hn.1 (by omega))
 have e1:(⟨(kR fr ta n).toArray⟩:ByteArray)=(⟨#[gJ (fr/256/256/256),gJ (fr/256/256),gJ (fr/256),gJ fr]⟩:ByteArray)++⟨#[gJ (ta/256/256/256),gJ (ta/256/256),gJ (ta/256),gJ ta]⟩++⟨#[0,17]⟩++⟨#[gJ (n/256),gJ n]⟩:=by
  rw[kR,<-vM fr,<-vM ta]
  apply aC
  apply aJ
  simp[aO,su,iy]
 rw[e1]
 clear e1
 go_enter func105,ntmps105
 go_wp2_with fail
 refine H1.mono ?_
 rintro ee w1 ⟨rfl,b1⟩
 have B1:=gu b1
 clear b1
 go_wp2_with fail
 refine(H2 _).mono ?_
 rintro ee w2 ⟨rfl,b2⟩
 have B2:=gu b2
 clear b2
 go_wp2_with fail
 refine(H3 _).mono ?_
 rintro ee w3 ⟨rfl,b3⟩
 have B3:=gu b3
 clear b3
 go_wp2
 go_ret
 have s1:=B1.size
 have s2:=B2.size
 exact⟨rfl,(B1.trans (B2.mono s1)).trans (B3.mono (aG s1 s2))⟩
theorem below_drewN{N:Nat}{a w:fV}(h:gm N a w)(n:Nat):gm N a (w.drewN n):=⟨h.os,h.tape,h.output,h.size,h.block⟩
theorem M5(f t fr ta:Int)(load:ByteArray)(w:fV)(hF:0<=f/\f<=65535)(hT:0<=t/\t<=65535)(hf:0<=fr/\fr<=4294967295)(ho:0<=ta/\ta<=4294967295)(hl:load.size<=1472)(hz:tC f t fr ta load=0):
  f_ Vh 136 #[.agg (rG f t load),Vb Vf fr,Vb Vf ta] w fun ee w'=>
   ee=.returned (.tuple #[.string ⟨(uG f t fr ta load).toArray⟩,Vb Vg 0])/\gm w.heap.size w w':=by
 have hq1:IntKind.i64.wrap (8+(load.size:Int))=8+(load.size:Int):=wrap_i64 _ (by omega) (by omega)
 have hq2:IntKind.i64.wrap f=f:=wrap_i64 _ (by omega) (by omega)
 have hq3:IntKind.i64.wrap t=t:=wrap_i64 _ (by omega) (by omega)
 have hgt: ¬(1480:Int)<8+(load.size:Int):=by omega
 have HZ:=gu hz
 clear hz
 obtain⟨Pb,hPb⟩:∃Pb:ByteArray,Pb=⟨(kR fr ta (8+(load.size:Int))).toArray⟩:=⟨_,rfl⟩
 have HBe:=gu (fun u=>qH fr ta (8+(load.size:Int)) u hf ho (by omega))
 rw[<-hPb]at HBe
 have hPz:Pb.size=12:=by rw[hPb];rfl
 obtain⟨a,ha⟩:∃a:ByteArray,a=⟨#[gJ (f/256),gJ f]⟩++⟨#[gJ (t/256),gJ t]⟩++⟨#[gJ ((8+(load.size:Int))/256),gJ (8+(load.size:Int))]⟩:=⟨_,rfl⟩
 have haz:a.size=6:=by rw[ha];rfl
 have hs2:(Pb++a).size=18:=by rw[aM,hPz,haz]
 have hs3:(Pb++a++⟨#[0,0]⟩).size=20:=by rw[aM,hs2];rfl
 have hs4:(Pb++a++⟨#[0,0]⟩++load).size=20+load.size:=by rw[aM,hs3]
 have hadd1:=fun u=>Vr (P:=Vh) u Pb a (by rw[hPz,haz];omega)
 have hadd2:=fun u=>Vr (P:=Vh) u (Pb++a) ⟨#[0,0]⟩ (by rw[hs2];show 18+2<=_;omega)
 have hadd3:=fun u=>Vr (P:=Vh) u (Pb++a++⟨#[0,0]⟩) load (by rw[hs3];omega)
 have hs5:(a++⟨#[gJ 255,gJ 65535]⟩).size=8:=by rw[aM,haz];rfl
 have hadd4:=fun u=>Vr (P:=Vh) u a ⟨#[gJ 255,gJ 65535]⟩ (by rw[haz];show 6+2<=_;omega)
 have hadd5:=fun u=>Vr (P:=Vh) u (a++⟨#[gJ 255,gJ 65535]⟩) load (by rw[hs5];omega)
 have HCk:Hid (∀u:fV,f_ Vh 104 #[.string (Pb++a++⟨#[0,0]⟩++load)] u fun ee w'=>ee=.returned (Vb Vg 0)/\∃n,w'=u.drewN n):=gu (fun u=>by
  have h:=pQ.lg (Pb++a++⟨#[0,0]⟩++load) u (by rw[hs4];omega)
  have e:65535-pQ.fold (pQ.jL (Pb++a++⟨#[0,0]⟩++load).data.toList)=0:=by
   have e2:(Pb++a++⟨#[0,0]⟩++load).data.toList=kR fr ta (8+load.size)++si f t load:=by
    rw[ha,hPb];simp[aO,si,iy];rfl
   rw[e2];exact HZ
  rw[e]at h
  exact h)
 have HFin:Hid (a++⟨#[gJ 255,gJ 65535]⟩++load=⟨(uG f t fr ta load).toArray⟩):=gu (by
  rw[uG,Ff,ay (gB HZ),ha]
  apply aC
  apply aJ
  simp[aO,si,iy,uO])
 have HA:=gu ha
 clear hPb hs2 hs3 hs4 hs5 hPz ha
 obtain⟨hF0,hF1⟩:=hF
 obtain⟨hT0,hT1⟩:=hT
 go_enter func136,ntmps136
 go_wp2
 go_region_held3 (fun u=>u.cell? (a_ w.heap.size 0)=some (Vb Ve f)/\u.cell? (a_ w.heap.size 1)=some (Vb Ve t)/\u.cell? (a_ w.heap.size 2)=some (.string load)) (go_keep)
  (first|(go_at_call 131;refine(jG _ _ (by omega) (by omega)).mono ?_;rintro ee u1 ⟨rfl,hb1⟩;have hB1:gm (w.heap.size+1) (w.alloc (.cells (rG f t load) 98)) u1:=(by first|exact((R9 _ _).drew).trans (hb1.mono (by simp))|exact hB1.trans (hb1.mono (Ip.sizes hB1))|exact hB1.drew.trans (hb1.mono (Ip.sizes hB1.drew)));have hcc1:=Ip.jw hB1;have hzz1:=Ip.sizes hB1;clear hb1))
 go_wp2
 rw[<-gB HA]
 go_region_held3 (fun u=>u.cell? (a_ w.heap.size 0)=some (Vb Ve f)/\u.cell? (a_ w.heap.size 1)=some (Vb Ve t)/\u.cell? (a_ w.heap.size 2)=some (.string load)) (go_keep)
  (first|(go_at_call 105;refine(HBe _).mono ?_;rintro ee u1 ⟨rfl,hb1⟩;have hB1:gm (w.heap.size+1) (w.alloc (.cells (rG f t load) 98)) u1:=(by first|exact((R9 _ _).drew).trans (hb1.mono (by simp))|exact hB1.trans (hb1.mono (Ip.sizes hB1))|exact hB1.drew.trans (hb1.mono (Ip.sizes hB1.drew)));have hcc1:=Ip.jw hB1;have hzz1:=Ip.sizes hB1;clear hb1)|(go_at_call 104;refine(HCk _).mono ?_;rintro ee u1 ⟨rfl,nn,hu1⟩;have hB1:gm (w.heap.size+1) (w.alloc (.cells (rG f t load) 98)) u1:=(by rw[hu1];exact below_drewN hB1 nn);have hcc1:=Ip.jw hB1;have hzz1:=Ip.sizes hB1;clear hu1))
 go_wp2
 go_region_held3 (fun u=>u.cell? (a_ w.heap.size 0)=some (Vb Ve f)/\u.cell? (a_ w.heap.size 1)=some (Vb Ve t)/\u.cell? (a_ w.heap.size 2)=some (.string load)) (go_keep)
  (first|(go_at_call 131;refine(jG _ _ (by omega) (by omega)).mono ?_;rintro ee u1 ⟨rfl,hb1⟩;have hB1:gm (w.heap.size+1) (w.alloc (.cells (rG f t load) 98)) u1:=(by first|exact((R9 _ _).drew).trans (hb1.mono (by simp))|exact hB1.trans (hb1.mono (Ip.sizes hB1))|exact hB1.drew.trans (hb1.mono (Ip.sizes hB1.drew)));have hcc1:=Ip.jw hB1;have hzz1:=Ip.sizes hB1;clear hb1))
 go_wp2
 go_ret2
 refine⟨Ip.lZ HFin,?_⟩
 exact((R9 _ w).alloc (ai _) _).trans (hB1.mono (by omega))
theorem Qc(f t fr ta:Int)(load:ByteArray)(w:fV)(hF:0<=f/\f<=65535)(hT:0<=t/\t<=65535)(hf:0<=fr/\fr<=4294967295)(ho:0<=ta/\ta<=4294967295)(hl:load.size<=1472)(hz:tC f t fr ta load≠0):
  f_ Vh 136 #[.agg (rG f t load),Vb Vf fr,Vb Vf ta] w fun ee w'=>
   ee=.returned (.tuple #[.string ⟨(uG f t fr ta load).toArray⟩,Vb Vg 0])/\gm w.heap.size w w':=by
 have hq1:IntKind.i64.wrap (8+(load.size:Int))=8+(load.size:Int):=wrap_i64 _ (by omega) (by omega)
 have hq2:IntKind.i64.wrap f=f:=wrap_i64 _ (by omega) (by omega)
 have hq3:IntKind.i64.wrap t=t:=wrap_i64 _ (by omega) (by omega)
 have hgt: ¬(1480:Int)<8+(load.size:Int):=by omega
 have HZ:=gu hz
 clear hz
 obtain⟨c,hc⟩:∃c,c=tC f t fr ta load:=⟨_,rfl⟩
 have hcb:=uX (kR fr ta (8+load.size)++si f t load)
 rw[show lS (kR fr ta (8+load.size)++si f t load)=tC f t fr ta load from rfl,<-hc]at hcb
 obtain⟨hcb0,hcb1⟩:=hcb
 have hcn:(c==0)=false:=by rw[hc];simpa using gB HZ
 have HCC:=gu hc
 obtain⟨Pb,hPb⟩:∃Pb:ByteArray,Pb=⟨(kR fr ta (8+(load.size:Int))).toArray⟩:=⟨_,rfl⟩
 have HBe:=gu (fun u=>qH fr ta (8+(load.size:Int)) u hf ho (by omega))
 rw[<-hPb]at HBe
 have hPz:Pb.size=12:=by rw[hPb];rfl
 obtain⟨a,ha⟩:∃a:ByteArray,a=⟨#[gJ (f/256),gJ f]⟩++⟨#[gJ (t/256),gJ t]⟩++⟨#[gJ ((8+(load.size:Int))/256),gJ (8+(load.size:Int))]⟩:=⟨_,rfl⟩
 have haz:a.size=6:=by rw[ha];rfl
 have hs2:(Pb++a).size=18:=by rw[aM,hPz,haz]
 have hs3:(Pb++a++⟨#[0,0]⟩).size=20:=by rw[aM,hs2];rfl
 have hs4:(Pb++a++⟨#[0,0]⟩++load).size=20+load.size:=by rw[aM,hs3]
 have hadd1:=fun u=>Vr (P:=Vh) u Pb a (by rw[hPz,haz];omega)
 have hadd2:=fun u=>Vr (P:=Vh) u (Pb++a) ⟨#[0,0]⟩ (by rw[hs2];show 18+2<=_;omega)
 have hadd3:=fun u=>Vr (P:=Vh) u (Pb++a++⟨#[0,0]⟩) load (by rw[hs3];omega)
 have hs5:(a++⟨#[gJ (c/256),gJ c]⟩).size=8:=by rw[aM,haz];rfl
 have hadd4:=fun u=>Vr (P:=Vh) u a ⟨#[gJ (c/256),gJ c]⟩ (by rw[haz];show 6+2<=_;omega)
 have hadd5:=fun u=>Vr (P:=Vh) u (a++⟨#[gJ (c/256),gJ c]⟩) load (by rw[hs5];omega)
 have HCk:Hid (∀u:fV,f_ Vh 104 #[.string (Pb++a++⟨#[0,0]⟩++load)] u fun ee w'=>ee=.returned (Vb Vg c)/\∃n,w'=u.drewN n):=gu (fun u=>by
  have h:=pQ.lg (Pb++a++⟨#[0,0]⟩++load) u (by rw[hs4];omega)
  have e:65535-pQ.fold (pQ.jL (Pb++a++⟨#[0,0]⟩++load).data.toList)=c:=by
   have e2:(Pb++a++⟨#[0,0]⟩++load).data.toList=kR fr ta (8+load.size)++si f t load:=by
    rw[ha,hPb];simp[aO,si,iy];rfl
   rw[e2];exact HCC.symm
  rw[e]at h
  exact h)
 have HFin:Hid (a++⟨#[gJ (c/256),gJ c]⟩++load=⟨(uG f t fr ta load).toArray⟩):=gu (by
  rw[uG,Ff,ax (gB HZ),<-gB HCC,ha]
  apply aC
  apply aJ
  simp[aO,si,iy,uO])
 have HA:=gu ha
 clear hPb hs2 hs3 hs4 hs5 hPz ha
 clear hc
 obtain⟨hF0,hF1⟩:=hF
 obtain⟨hT0,hT1⟩:=hT
 go_enter func136,ntmps136
 go_wp2
 go_region_held3 (fun u=>u.cell? (a_ w.heap.size 0)=some (Vb Ve f)/\u.cell? (a_ w.heap.size 1)=some (Vb Ve t)/\u.cell? (a_ w.heap.size 2)=some (.string load)) (go_keep)
  (first|(go_at_call 131;refine(jG _ _ (by omega) (by omega)).mono ?_;rintro ee u1 ⟨rfl,hb1⟩;have hB1:gm (w.heap.size+1) (w.alloc (.cells (rG f t load) 98)) u1:=(by first|exact((R9 _ _).drew).trans (hb1.mono (by simp))|exact hB1.trans (hb1.mono (Ip.sizes hB1))|exact hB1.drew.trans (hb1.mono (Ip.sizes hB1.drew)));have hcc1:=Ip.jw hB1;have hzz1:=Ip.sizes hB1;clear hb1))
 go_wp2
 rw[<-gB HA]
 go_region_held3 (fun u=>u.cell? (a_ w.heap.size 0)=some (Vb Ve f)/\u.cell? (a_ w.heap.size 1)=some (Vb Ve t)/\u.cell? (a_ w.heap.size 2)=some (.string load)) (go_keep)
  (first|(go_at_call 105;refine(HBe _).mono ?_;rintro ee u1 ⟨rfl,hb1⟩;have hB1:gm (w.heap.size+1) (w.alloc (.cells (rG f t load) 98)) u1:=(by first|exact((R9 _ _).drew).trans (hb1.mono (by simp))|exact hB1.trans (hb1.mono (Ip.sizes hB1))|exact hB1.drew.trans (hb1.mono (Ip.sizes hB1.drew)));have hcc1:=Ip.jw hB1;have hzz1:=Ip.sizes hB1;clear hb1)|(go_at_call 104;refine(HCk _).mono ?_;rintro ee u1 ⟨rfl,nn,hu1⟩;have hB1:gm (w.heap.size+1) (w.alloc (.cells (rG f t load) 98)) u1:=(by rw[hu1];exact below_drewN hB1 nn);have hcc1:=Ip.jw hB1;have hzz1:=Ip.sizes hB1;clear hu1))
 go_wp2
 go_region_held3 (fun u=>u.cell? (a_ w.heap.size 0)=some (Vb Ve f)/\u.cell? (a_ w.heap.size 1)=some (Vb Ve t)/\u.cell? (a_ w.heap.size 2)=some (.string load)) (go_keep)
  (first|(go_at_call 131;refine(jG _ _ (by omega) (by omega)).mono ?_;rintro ee u1 ⟨rfl,hb1⟩;have hB1:gm (w.heap.size+1) (w.alloc (.cells (rG f t load) 98)) u1:=(by first|exact((R9 _ _).drew).trans (hb1.mono (by simp))|exact hB1.trans (hb1.mono (Ip.sizes hB1))|exact hB1.drew.trans (hb1.mono (Ip.sizes hB1.drew)));have hcc1:=Ip.jw hB1;have hzz1:=Ip.sizes hB1;clear hb1))
 go_wp2
 go_ret2
 refine⟨Ip.lZ HFin,?_⟩
 exact((R9 _ w).alloc (ai _) _).trans (hB1.mono (by omega))
theorem kz(f t fr ta:Int)(load:ByteArray)(w:fV)(hF:0<=f/\f<=65535)(hT:0<=t/\t<=65535)(hf:0<=fr/\fr<=4294967295)(ho:0<=ta/\ta<=4294967295)(h3:load.size<=262144):
  f_ Vh 136 #[.agg (rG f t load),Vb Vf fr,Vb Vf ta] w fun ee w'=>
   ee=.returned (.tuple #[.string (sH f t fr ta load),Vb Vg (Bo load)])/\gm w.heap.size w w':=by
 by_cases hl:load.size<=1472
 ·have e1:sH f t fr ta load=⟨(uG f t fr ta load).toArray⟩:=by simp[sH,hl]
  have e2:Bo load=0:=by simp[Bo,hl]
  rw[e1,e2]
  by_cases hz:tC f t fr ta load=0
  ·exact M5 f t fr ta load w hF hT hf ho hl hz
  ·exact Qc f t fr ta load w hF hT hf ho hl hz
 ·have e1:sH f t fr ta load=⟨#[]⟩:=by simp[sH,hl]
  have e2:Bo load=7:=by simp[Bo,hl]
  rw[e1,e2]
  have hq1:IntKind.i64.wrap (8+(load.size:Int))=8+(load.size:Int):=wrap_i64 _ (by omega) (by omega)
  have hgt:(1480:Int)<8+(load.size:Int):=by omega
  clear e1 e2 hl
  go_enter func136,ntmps136
  go_wp2
  go_ret2
  exact⟨rfl,(R9 _ _).alloc (ai _) _⟩
end Ud
namespace Ip
open Bs Rb Wt rO
theorem pJ{w:fV}{b o:Nat}{v:Value}(h:w.cell? (a_ b o)=some v):b<w.heap.size:=by
 by_cases hlt:b<w.heap.size
 ·exact hlt
 ·have hn:w.heap[b]?=none:=by simp;omega
  simp[World.cell?,hn]at h
theorem QC(u:fV)(g:Nat)(a b:Int)(h:g=u.heap.size):(u.alloc (.cells #[Vb Vd a,Vb Vd b] 5)).cell? (a_ g 0)=some (Vb Vd a):=by
 subst h;rw[HY _ u.heap.size 0 _ _ (0,0) (G8 u _)];rfl
theorem LY(u:fV)(g:Nat)(a b:Int)(h:g=u.heap.size):(u.alloc (.cells #[Vb Vd a,Vb Vd b] 5)).cell? (a_ g 1)=some (Vb Vd b):=by
 subst h;rw[HY _ u.heap.size 1 _ _ (0,0) (G8 u _)];rfl
theorem Am(id ttl pr fr ta:Int)(load:ByteArray)(w:fV)(hi:0<=id/\id<=65535)(ht:0<ttl/\ttl<=255)(hp:0<=pr/\pr<=255)(hf:0<=fr/\fr<=4294967295)(ho:0<=ta/\ta<=4294967295)(hl:load.size<=1480):
  f_ Vh 137 #[.agg (rU id ttl pr fr ta load)] w fun ee w'=>
   ee=.returned (.tuple #[.string ⟨(Ls id ttl pr fr ta load).toArray⟩,Vb Vg 0])/\gm w.heap.size w w':=by
 have hne:(ttl==0)=false:=by simp;omega
 have hgt: ¬(1480:Int)<(load.size:Int):=by omega
 have hq1:IntKind.i64.wrap (20+(load.size:Int))=20+(load.size:Int):=wrap_i64 _ (by omega) (by omega)
 have hq2:IntKind.i64.wrap id=id:=wrap_i64 _ (by omega) (by omega)
 have ht':0<=ttl/\ttl<=255:=by omega
 obtain⟨hi0,hi1⟩:=hi
 obtain⟨hf0,hf1⟩:=hf
 obtain⟨ho0,ho1⟩:=ho
 obtain⟨a,ha⟩:∃a:ByteArray,a=⟨#[69,0,gJ ((20+(load.size:Int))/256),gJ (20+(load.size:Int)),gJ (id/256),gJ id,64,0,gJ ttl,gJ pr]⟩:=⟨_,rfl⟩
 obtain⟨b,hb⟩:∃b:ByteArray,b=⟨#[gJ (fr/256/256/256),gJ (fr/256/256),gJ (fr/256),gJ fr]⟩++⟨#[gJ (ta/256/256/256),gJ (ta/256/256),gJ (ta/256),gJ ta]⟩:=⟨_,rfl⟩
 have haz:a.size=10:=by rw[ha];rfl
 have hbz:b.size=8:=by rw[hb];rfl
 have hs1:(a++⟨#[0,0]⟩).size=12:=by rw[aM,haz];rfl
 have hs2:(a++⟨#[0,0]⟩++b).size=20:=by rw[aM,hs1,hbz]
 obtain⟨c,hc⟩:∃c,c=lS (kG (20+load.size) id ttl pr fr ta 0):=⟨_,rfl⟩
 have hcb:=uX (kG (20+load.size) id ttl pr fr ta 0)
 rw[<-hc]at hcb
 obtain⟨hcb0,hcb1⟩:=hcb
 have hs3:(a++⟨#[gJ (c/256),gJ c]⟩).size=12:=by rw[aM,haz];rfl
 have hs4:(a++⟨#[gJ (c/256),gJ c]⟩++b).size=20:=by rw[aM,hs3,hbz]
 have hadd1:=fun u=>Vr (P:=Vh) u a ⟨#[0,0]⟩ (by rw[haz];show 10+2<=_;omega)
 have hadd2:=fun u=>Vr (P:=Vh) u (a++⟨#[0,0]⟩) b (by rw[hs1,hbz];omega)
 have hadd3:=fun u=>Vr (P:=Vh) u a ⟨#[gJ (c/256),gJ c]⟩ (by rw[haz];show 10+2<=_;omega)
 have hadd4:=fun u=>Vr (P:=Vh) u (a++⟨#[gJ (c/256),gJ c]⟩) b (by rw[hs3,hbz];omega)
 have hadd5:=fun u=>Vr (P:=Vh) u (a++⟨#[gJ (c/256),gJ c]⟩++b) load (by rw[hs4];omega)
 have HCk:Hid (∀u:fV,f_ Vh 104 #[.string (a++⟨#[0,0]⟩++b)] u fun ee w'=>ee=.returned (Vb Vg c)/\∃n,w'=u.drewN n):=gu (fun u=>by
  have h:=pQ.lg (a++⟨#[0,0]⟩++b) u (by rw[hs2];omega)
  have e:65535-pQ.fold (pQ.jL (a++⟨#[0,0]⟩++b).data.toList)=c:=by
   have e2:(a++⟨#[0,0]⟩++b).data.toList=kG (20+load.size) id ttl pr fr ta 0:=by
    rw[ha,hb,kG,<-vM fr,<-vM ta];simp[aO,iy,su];decide
   rw[e2,hc];rfl
  rw[e]at h
  exact h)
 have HFin:Hid (a++⟨#[gJ (c/256),gJ c]⟩++b++load=⟨(Ls id ttl pr fr ta load).toArray⟩):=gu (by
  rw[Ls,<-hc,ha,hb,kG,<-vM fr,<-vM ta]
  apply aC
  apply aJ
  simp[aO,iy,su]
  decide)
 have HA:=gu ha
 have HBB:=gu hb
 clear hs1 hs2 hs3 hs4 hc ha hb
 go_enter func137,ntmps137
 go_wp2
 go_cut [4] (fun s4 wc=>s4=.string ⟨#[69,0,gJ ((20+(load.size:Int))/256),gJ (20+(load.size:Int)),gJ (id/256),gJ id,64,0,gJ ttl,gJ pr]⟩/\gm (w.heap.size+1) (w.alloc (.cells (rU id ttl pr fr ta load) 120)) wc)
 case first=>
  clear hadd1 hadd2 hadd3 hadd4 hadd5 HCk HFin
  refine wp_region_held_drew (S:=fun u=>gm (w.heap.size+1) (w.alloc (.cells (rU id ttl pr fr ta load) 120)) u) (by kernel_rfl) ((R9 _ _).drew) (fun hB0=> ?_)
  refine Vo (i:=0) (v:=.pointer (some (a_ w.heap.size 5))) rfl (by kernel_rfl) (by kernel_rfl) (by kernel_rfl) (fun _ _ _ h=>h) (au ⟨by rfl,?_⟩) hB0 ?_
  ·intro u hu;go_simp
  try simp only[Act.put,ae,ah,af]
  refine tkH_ (i:=1) (v:=.string load) rfl (by kernel_rfl) (fun _ _ _ h=>h) (au ⟨by rfl,?_⟩) hB0 ?_
  ·intro u hu;have hcc:=jw hu;go_simp
  try simp only[Act.put,ae,ah,af]
  refine tkH_ (i:=2) (v:=Vb Vg load.size) rfl (by kernel_rfl) (fun _ _ _ h=>h) (au ⟨by rfl,?_⟩) hB0 ?_
  ·intro u hu;go_simp
  try simp only[Act.put,ae,ah,af]
  refine Vo (i:=3) (v:=Vb Vg (20+(load.size:Int))) rfl (by kernel_rfl) (by kernel_rfl) (by kernel_rfl) (fun _ _ _ h=>h) (au ⟨by rfl,?_⟩) hB0 ?_
  ·intro u hu;go_simp
  try simp only[Act.put,ae,ah,af]
  refine tkH_ (i:=6) (v:=(p_ w.heap.size)) rfl (by kernel_rfl) (fun _ _ _ h=>h) (au ⟨by rfl,?_⟩) hB0 ?_
  ·intro u hu;go_simp
  try simp only[Act.put,ae,ah,af]
  refine tkH_ (i:=7) (v:=Vb Ve id) rfl (by kernel_rfl) (fun _ _ _ h=>h) (au ⟨by rfl,?_⟩) hB0 ?_
  ·intro u hu;have hcc:=jw hu;go_simp
  try simp only[Act.put,ae,ah,af]
  refine tkH_ (i:=8) (v:=Vb Vg id) rfl (by kernel_rfl) (fun _ _ _ h=>h) (au ⟨by rfl,?_⟩) hB0 ?_
  ·intro u hu;go_simp
  try simp only[Act.put,ae,ah,af]
  refine Vo (i:=12) (v:=.pointer (some (a_ w.heap.size 1))) rfl (by kernel_rfl) (by kernel_rfl) (by kernel_rfl) (fun _ _ _ h=>h) (au ⟨by rfl,?_⟩) hB0 ?_
  ·intro u hu;go_simp
  try simp only[Act.put,ae,ah,af]
  refine tkH_ (i:=13) (v:=Vb Vd ttl) rfl (by kernel_rfl) (fun _ _ _ h=>h) (au ⟨by rfl,?_⟩) hB0 ?_
  ·intro u hu;have hcc:=jw hu;go_simp
  try simp only[Act.put,ae,ah,af]
  refine Vo (i:=14) (v:=.pointer (some (a_ w.heap.size 2))) rfl (by kernel_rfl) (by kernel_rfl) (by kernel_rfl) (fun _ _ _ h=>h) (au ⟨by rfl,?_⟩) hB0 ?_
  ·intro u hu;go_simp
  try simp only[Act.put,ae,ah,af]
  refine tkH_ (i:=15) (v:=Vb Vd pr) rfl (by kernel_rfl) (fun _ _ _ h=>h) (au ⟨by rfl,?_⟩) hB0 ?_
  ·intro u hu;have hcc:=jw hu;go_simp
  try simp only[Act.put,ae,ah,af]
  refine wpAnyH_ready (rs:=[4,16]) (by kernel_rfl) (by simp) ?_
  refine AllReadyH.cons rfl (fun K hK=> ?_) (AllReadyH.cons rfl (fun K hK=> ?_) AllReadyH.nil)
  ·go_simp
   refine(jG _ _ (by omega) (by omega)).mono ?_
   rintro ee u1 ⟨rfl,hb1⟩
   have hB1:gm (w.heap.size+1) (w.alloc (.cells (rU id ttl pr fr ta load) 120)) u1:=hB0.trans (hb1.mono (sizes hB0))
   refine hK.out _ _ hB1 (fun _=> ?_)
   clear hK K hb1
   try simp only[Act.put,ae,ah,af]
   refine Vo (i:=5) (v:=.string ({data:=#[69,0]}++⟨#[gJ ((20+(load.size:Int))/256),gJ (20+(load.size:Int))]⟩:ByteArray)) rfl (by kernel_rfl) (by kernel_rfl) (by kernel_rfl) (fun _ _ _ h=>h) (au ⟨by rfl,?_⟩) hB1 ?_
   ·intro u hu;go_simp
   try simp only[Act.put,ae,ah,af]
   refine wpAnyH_ready (rs:=[9,16]) (by kernel_rfl) (by simp) ?_
   refine AllReadyH.cons rfl (fun K hK=> ?_) (AllReadyH.cons rfl (fun K hK=> ?_) AllReadyH.nil)
   ·go_simp
    refine(jG _ _ (by omega) (by omega)).mono ?_
    rintro ee u2 ⟨rfl,hb2⟩
    have hB2:gm (w.heap.size+1) (w.alloc (.cells (rU id ttl pr fr ta load) 120)) u2:=hB1.trans (hb2.mono (sizes hB1))
    refine hK.out _ _ hB2 (fun _=> ?_)
    clear hK K hb2
    try simp only[Act.put,ae,ah,af]
    refine Vo (i:=10) (v:=.string (({data:=#[69,0]}++⟨#[gJ ((20+(load.size:Int))/256),gJ (20+(load.size:Int))]⟩:ByteArray)++⟨#[gJ (id/256),gJ id]⟩:ByteArray)) rfl (by kernel_rfl) (by kernel_rfl) (by kernel_rfl) (fun _ _ _ h=>h) (au ⟨by rfl,?_⟩) hB2 ?_
    ·intro u hu;go_simp
    try simp only[Act.put,ae,ah,af]
    refine Vo (i:=11) (v:=.string ((({data:=#[69,0]}++⟨#[gJ ((20+(load.size:Int))/256),gJ (20+(load.size:Int))]⟩:ByteArray)++⟨#[gJ (id/256),gJ id]⟩:ByteArray)++ {data:=#[64,0]}:ByteArray)) rfl (by kernel_rfl) (by kernel_rfl) (by kernel_rfl) (fun _ _ _ h=>h) (au ⟨by rfl,?_⟩) hB2 ?_
    ·intro u hu;go_simp
    try simp only[Act.put,ae,ah,af]
    refine wpAnyH_ready (rs:=[16]) (by kernel_rfl) (by simp) ?_
    refine AllReadyH.cons rfl (fun K hK=> ?_) AllReadyH.nil
    ·go_simp
     have hB3:gm (w.heap.size+1) (w.alloc (.cells (rU id ttl pr fr ta load) 120)) (u2.alloc (.cells #[Vb Vd ttl,Vb Vd pr] 5)):=hB2.alloc (sizes hB2) _
     have ca3:(u2.alloc (.cells #[Vb Vd ttl,Vb Vd pr] 5)).cell? (a_ u2.heap.size 0)=some (Vb Vd ttl):=QC _ _ _ _ rfl
     have cb3:(u2.alloc (.cells #[Vb Vd ttl,Vb Vd pr] 5)).cell? (a_ u2.heap.size 1)=some (Vb Vd pr):=LY _ _ _ _ rfl
     refine hK.out _ _ hB3 (fun _=> ?_)
     clear hK K
     try simp only[Act.put,ae,ah,af]
     refine wpAnyH_ready (rs:=[17]) (by kernel_rfl) (by simp) ?_
     refine AllReadyH.cons rfl (fun K hK=> ?_) AllReadyH.nil
     ·have hv4:=wG _ (u2.heap.size) ttl pr ht' hp ca3 cb3
      go_simp
      refine hK.out _ _ hB3 (fun _=> ?_)
      clear hK K hv4
      try simp only[Act.put,ae,ah,af]
      refine Vo (i:=18) (v:=.string (((({data:=#[69,0]}++⟨#[gJ ((20+(load.size:Int))/256),gJ (20+(load.size:Int))]⟩:ByteArray)++⟨#[gJ (id/256),gJ id]⟩:ByteArray)++ {data:=#[64,0]}:ByteArray)++ {data:=#[gJ ttl,gJ pr]}:ByteArray)) rfl (by kernel_rfl) (by kernel_rfl) (by kernel_rfl) (fun _ _ _ h=>h) (au ⟨by rfl,?_⟩) hB3 ?_
      ·intro u hu;go_simp
      try simp only[Act.put,ae,ah,af]
      refine wpAnyH_ready (rs:=[19]) (by kernel_rfl) (by simp) ?_
      refine AllReadyH.cons rfl (fun K hK=> ?_) AllReadyH.nil
      ·go_simp
       refine hK.out _ _ hB3 (fun _=> ?_)
       clear hK K
       try simp only[Act.put,ae,ah,af]
       refine VG (by kernel_rfl) ?_ _
       go_wp2
       go_meet
       exact⟨aZ Value.string (aC (aJ (by simp[aO]))),hB3⟩
   ·go_simp
    have hB6:gm (w.heap.size+1) (w.alloc (.cells (rU id ttl pr fr ta load) 120)) (u1.alloc (.cells #[Vb Vd ttl,Vb Vd pr] 5)):=hB1.alloc (sizes hB1) _
    have ca6:(u1.alloc (.cells #[Vb Vd ttl,Vb Vd pr] 5)).cell? (a_ u1.heap.size 0)=some (Vb Vd ttl):=QC _ _ _ _ rfl
    have cb6:(u1.alloc (.cells #[Vb Vd ttl,Vb Vd pr] 5)).cell? (a_ u1.heap.size 1)=some (Vb Vd pr):=LY _ _ _ _ rfl
    refine hK.out _ _ hB6 (fun _=> ?_)
    clear hK K
    try simp only[Act.put,ae,ah,af]
    refine wpAnyH_ready (rs:=[9,17]) (by kernel_rfl) (by simp) ?_
    refine AllReadyH.cons rfl (fun K hK=> ?_) (AllReadyH.cons rfl (fun K hK=> ?_) AllReadyH.nil)
    ·go_simp
     refine(jG _ _ (by omega) (by omega)).mono ?_
     rintro ee u7 ⟨rfl,hb7⟩
     have hB7:gm (w.heap.size+1) (w.alloc (.cells (rU id ttl pr fr ta load) 120)) u7:=hB6.trans (hb7.mono (sizes hB6))
     have ca7:=(hb7.cell (p:=(a_ u1.heap.size 0)) (pJ ca6)).trans ca6
     have cb7:=(hb7.cell (p:=(a_ u1.heap.size 1)) (pJ cb6)).trans cb6
     refine hK.out _ _ hB7 (fun _=> ?_)
     clear hK K hb7
     try simp only[Act.put,ae,ah,af]
     refine Vo (i:=10) (v:=.string (({data:=#[69,0]}++⟨#[gJ ((20+(load.size:Int))/256),gJ (20+(load.size:Int))]⟩:ByteArray)++⟨#[gJ (id/256),gJ id]⟩:ByteArray)) rfl (by kernel_rfl) (by kernel_rfl) (by kernel_rfl) (fun _ _ _ h=>h) (au ⟨by rfl,?_⟩) hB7 ?_
     ·intro u hu;go_simp
     try simp only[Act.put,ae,ah,af]
     refine Vo (i:=11) (v:=.string ((({data:=#[69,0]}++⟨#[gJ ((20+(load.size:Int))/256),gJ (20+(load.size:Int))]⟩:ByteArray)++⟨#[gJ (id/256),gJ id]⟩:ByteArray)++ {data:=#[64,0]}:ByteArray)) rfl (by kernel_rfl) (by kernel_rfl) (by kernel_rfl) (fun _ _ _ h=>h) (au ⟨by rfl,?_⟩) hB7 ?_
     ·intro u hu;go_simp
     try simp only[Act.put,ae,ah,af]
     refine wpAnyH_ready (rs:=[17]) (by kernel_rfl) (by simp) ?_
     refine AllReadyH.cons rfl (fun K hK=> ?_) AllReadyH.nil
     ·have hv8:=wG _ (u1.heap.size) ttl pr ht' hp ca7 cb7
      go_simp
      refine hK.out _ _ hB7 (fun _=> ?_)
      clear hK K hv8
      try simp only[Act.put,ae,ah,af]
      refine Vo (i:=18) (v:=.string (((({data:=#[69,0]}++⟨#[gJ ((20+(load.size:Int))/256),gJ (20+(load.size:Int))]⟩:ByteArray)++⟨#[gJ (id/256),gJ id]⟩:ByteArray)++ {data:=#[64,0]}:ByteArray)++ {data:=#[gJ ttl,gJ pr]}:ByteArray)) rfl (by kernel_rfl) (by kernel_rfl) (by kernel_rfl) (fun _ _ _ h=>h) (au ⟨by rfl,?_⟩) hB7 ?_
      ·intro u hu;go_simp
      try simp only[Act.put,ae,ah,af]
      refine wpAnyH_ready (rs:=[19]) (by kernel_rfl) (by simp) ?_
      refine AllReadyH.cons rfl (fun K hK=> ?_) AllReadyH.nil
      ·go_simp
       refine hK.out _ _ hB7 (fun _=> ?_)
       clear hK K
       try simp only[Act.put,ae,ah,af]
       refine VG (by kernel_rfl) ?_ _
       go_wp2
       go_meet
       exact⟨aZ Value.string (aC (aJ (by simp[aO]))),hB7⟩
    ·have hv10:=wG _ (u1.heap.size) ttl pr ht' hp ca6 cb6
     go_simp
     refine hK.out _ _ hB6 (fun _=> ?_)
     clear hK K hv10
     try simp only[Act.put,ae,ah,af]
     refine wpAnyH_ready (rs:=[9]) (by kernel_rfl) (by simp) ?_
     refine AllReadyH.cons rfl (fun K hK=> ?_) AllReadyH.nil
     ·go_simp
      refine(jG _ _ (by omega) (by omega)).mono ?_
      rintro ee u11 ⟨rfl,hb11⟩
      have hB11:gm (w.heap.size+1) (w.alloc (.cells (rU id ttl pr fr ta load) 120)) u11:=hB6.trans (hb11.mono (sizes hB6))
      have ca11:=(hb11.cell (p:=(a_ u1.heap.size 0)) (pJ ca6)).trans ca6
      have cb11:=(hb11.cell (p:=(a_ u1.heap.size 1)) (pJ cb6)).trans cb6
      refine hK.out _ _ hB11 (fun _=> ?_)
      clear hK K hb11
      try simp only[Act.put,ae,ah,af]
      refine Vo (i:=10) (v:=.string (({data:=#[69,0]}++⟨#[gJ ((20+(load.size:Int))/256),gJ (20+(load.size:Int))]⟩:ByteArray)++⟨#[gJ (id/256),gJ id]⟩:ByteArray)) rfl (by kernel_rfl) (by kernel_rfl) (by kernel_rfl) (fun _ _ _ h=>h) (au ⟨by rfl,?_⟩) hB11 ?_
      ·intro u hu;go_simp
      try simp only[Act.put,ae,ah,af]
      refine Vo (i:=11) (v:=.string ((({data:=#[69,0]}++⟨#[gJ ((20+(load.size:Int))/256),gJ (20+(load.size:Int))]⟩:ByteArray)++⟨#[gJ (id/256),gJ id]⟩:ByteArray)++ {data:=#[64,0]}:ByteArray)) rfl (by kernel_rfl) (by kernel_rfl) (by kernel_rfl) (fun _ _ _ h=>h) (au ⟨by rfl,?_⟩) hB11 ?_
      ·intro u hu;go_simp
      try simp only[Act.put,ae,ah,af]
      refine Vo (i:=18) (v:=.string (((({data:=#[69,0]}++⟨#[gJ ((20+(load.size:Int))/256),gJ (20+(load.size:Int))]⟩:ByteArray)++⟨#[gJ (id/256),gJ id]⟩:ByteArray)++ {data:=#[64,0]}:ByteArray)++ {data:=#[gJ ttl,gJ pr]}:ByteArray)) rfl (by kernel_rfl) (by kernel_rfl) (by kernel_rfl) (fun _ _ _ h=>h) (au ⟨by rfl,?_⟩) hB11 ?_
      ·intro u hu;go_simp
      try simp only[Act.put,ae,ah,af]
      refine wpAnyH_ready (rs:=[19]) (by kernel_rfl) (by simp) ?_
      refine AllReadyH.cons rfl (fun K hK=> ?_) AllReadyH.nil
      ·go_simp
       refine hK.out _ _ hB11 (fun _=> ?_)
       clear hK K
       try simp only[Act.put,ae,ah,af]
       refine VG (by kernel_rfl) ?_ _
       go_wp2
       go_meet
       exact⟨aZ Value.string (aC (aJ (by simp[aO]))),hB11⟩
  ·go_simp
   have hB13:gm (w.heap.size+1) (w.alloc (.cells (rU id ttl pr fr ta load) 120)) (((w.alloc (.cells (rU id ttl pr fr ta load) 120)).alloc (.cells #[Vb Vd ttl,Vb Vd pr] 5)).drew):=((R9 _ _).alloc (by simp) _).drew
   have ca13:(((w.alloc (.cells (rU id ttl pr fr ta load) 120)).alloc (.cells #[Vb Vd ttl,Vb Vd pr] 5)).drew).cell? (a_ (w.heap.size+1) 0)=some (Vb Vd ttl):=QC _ _ _ _ (by simp)
   have cb13:(((w.alloc (.cells (rU id ttl pr fr ta load) 120)).alloc (.cells #[Vb Vd ttl,Vb Vd pr] 5)).drew).cell? (a_ (w.heap.size+1) 1)=some (Vb Vd pr):=LY _ _ _ _ (by simp)
   refine hK.out _ _ hB13 (fun _=> ?_)
   clear hK K
   try simp only[Act.put,ae,ah,af]
   refine wpAnyH_ready (rs:=[4,17]) (by kernel_rfl) (by simp) ?_
   refine AllReadyH.cons rfl (fun K hK=> ?_) (AllReadyH.cons rfl (fun K hK=> ?_) AllReadyH.nil)
   ·go_simp
    refine(jG _ _ (by omega) (by omega)).mono ?_
    rintro ee u14 ⟨rfl,hb14⟩
    have hB14:gm (w.heap.size+1) (w.alloc (.cells (rU id ttl pr fr ta load) 120)) u14:=hB13.trans (hb14.mono (sizes hB13))
    have ca14:=(hb14.cell (p:=(a_ (w.heap.size+1) 0)) (pJ ca13)).trans ca13
    have cb14:=(hb14.cell (p:=(a_ (w.heap.size+1) 1)) (pJ cb13)).trans cb13
    refine hK.out _ _ hB14 (fun _=> ?_)
    clear hK K hb14
    try simp only[Act.put,ae,ah,af]
    refine Vo (i:=5) (v:=.string ({data:=#[69,0]}++⟨#[gJ ((20+(load.size:Int))/256),gJ (20+(load.size:Int))]⟩:ByteArray)) rfl (by kernel_rfl) (by kernel_rfl) (by kernel_rfl) (fun _ _ _ h=>h) (au ⟨by rfl,?_⟩) hB14 ?_
    ·intro u hu;go_simp
    try simp only[Act.put,ae,ah,af]
    refine wpAnyH_ready (rs:=[9,17]) (by kernel_rfl) (by simp) ?_
    refine AllReadyH.cons rfl (fun K hK=> ?_) (AllReadyH.cons rfl (fun K hK=> ?_) AllReadyH.nil)
    ·go_simp
     refine(jG _ _ (by omega) (by omega)).mono ?_
     rintro ee u15 ⟨rfl,hb15⟩
     have hB15:gm (w.heap.size+1) (w.alloc (.cells (rU id ttl pr fr ta load) 120)) u15:=hB14.trans (hb15.mono (sizes hB14))
     have ca15:=(hb15.cell (p:=(a_ (w.heap.size+1) 0)) (pJ ca14)).trans ca14
     have cb15:=(hb15.cell (p:=(a_ (w.heap.size+1) 1)) (pJ cb14)).trans cb14
     refine hK.out _ _ hB15 (fun _=> ?_)
     clear hK K hb15
     try simp only[Act.put,ae,ah,af]
     refine Vo (i:=10) (v:=.string (({data:=#[69,0]}++⟨#[gJ ((20+(load.size:Int))/256),gJ (20+(load.size:Int))]⟩:ByteArray)++⟨#[gJ (id/256),gJ id]⟩:ByteArray)) rfl (by kernel_rfl) (by kernel_rfl) (by kernel_rfl) (fun _ _ _ h=>h) (au ⟨by rfl,?_⟩) hB15 ?_
     ·intro u hu;go_simp
     try simp only[Act.put,ae,ah,af]
     refine Vo (i:=11) (v:=.string ((({data:=#[69,0]}++⟨#[gJ ((20+(load.size:Int))/256),gJ (20+(load.size:Int))]⟩:ByteArray)++⟨#[gJ (id/256),gJ id]⟩:ByteArray)++ {data:=#[64,0]}:ByteArray)) rfl (by kernel_rfl) (by kernel_rfl) (by kernel_rfl) (fun _ _ _ h=>h) (au ⟨by rfl,?_⟩) hB15 ?_
     ·intro u hu;go_simp
     try simp only[Act.put,ae,ah,af]
     refine wpAnyH_ready (rs:=[17]) (by kernel_rfl) (by simp) ?_
     refine AllReadyH.cons rfl (fun K hK=> ?_) AllReadyH.nil
     ·have hv16:=wG _ (w.heap.size+1) ttl pr ht' hp ca15 cb15
      go_simp
      refine hK.out _ _ hB15 (fun _=> ?_)
      clear hK K hv16
      try simp only[Act.put,ae,ah,af]
      refine Vo (i:=18) (v:=.string (((({data:=#[69,0]}++⟨#[gJ ((20+(load.size:Int))/256),gJ (20+(load.size:Int))]⟩:ByteArray)++⟨#[gJ (id/256),gJ id]⟩:ByteArray)++ {data:=#[64,0]}:ByteArray)++ {data:=#[gJ ttl,gJ pr]}:ByteArray)) rfl (by kernel_rfl) (by kernel_rfl) (by kernel_rfl) (fun _ _ _ h=>h) (au ⟨by rfl,?_⟩) hB15 ?_
      ·intro u hu;go_simp
      try simp only[Act.put,ae,ah,af]
      refine wpAnyH_ready (rs:=[19]) (by kernel_rfl) (by simp) ?_
      refine AllReadyH.cons rfl (fun K hK=> ?_) AllReadyH.nil
      ·go_simp
       refine hK.out _ _ hB15 (fun _=> ?_)
       clear hK K
       try simp only[Act.put,ae,ah,af]
       refine VG (by kernel_rfl) ?_ _
       go_wp2
       go_meet
       exact⟨aZ Value.string (aC (aJ (by simp[aO]))),hB15⟩
    ·have hv18:=wG _ (w.heap.size+1) ttl pr ht' hp ca14 cb14
     go_simp
     refine hK.out _ _ hB14 (fun _=> ?_)
     clear hK K hv18
     try simp only[Act.put,ae,ah,af]
     refine wpAnyH_ready (rs:=[9]) (by kernel_rfl) (by simp) ?_
     refine AllReadyH.cons rfl (fun K hK=> ?_) AllReadyH.nil
     ·go_simp
      refine(jG _ _ (by omega) (by omega)).mono ?_
      rintro ee u19 ⟨rfl,hb19⟩
      have hB19:gm (w.heap.size+1) (w.alloc (.cells (rU id ttl pr fr ta load) 120)) u19:=hB14.trans (hb19.mono (sizes hB14))
      have ca19:=(hb19.cell (p:=(a_ (w.heap.size+1) 0)) (pJ ca14)).trans ca14
      have cb19:=(hb19.cell (p:=(a_ (w.heap.size+1) 1)) (pJ cb14)).trans cb14
      refine hK.out _ _ hB19 (fun _=> ?_)
      clear hK K hb19
      try simp only[Act.put,ae,ah,af]
      refine Vo (i:=10) (v:=.string (({data:=#[69,0]}++⟨#[gJ ((20+(load.size:Int))/256),gJ (20+(load.size:Int))]⟩:ByteArray)++⟨#[gJ (id/256),gJ id]⟩:ByteArray)) rfl (by kernel_rfl) (by kernel_rfl) (by kernel_rfl) (fun _ _ _ h=>h) (au ⟨by rfl,?_⟩) hB19 ?_
      ·intro u hu;go_simp
      try simp only[Act.put,ae,ah,af]
      refine Vo (i:=11) (v:=.string ((({data:=#[69,0]}++⟨#[gJ ((20+(load.size:Int))/256),gJ (20+(load.size:Int))]⟩:ByteArray)++⟨#[gJ (id/256),gJ id]⟩:ByteArray)++ {data:=#[64,0]}:ByteArray)) rfl (by kernel_rfl) (by kernel_rfl) (by kernel_rfl) (fun _ _ _ h=>h) (au ⟨by rfl,?_⟩) hB19 ?_
      ·intro u hu;go_simp
      try simp only[Act.put,ae,ah,af]
      refine Vo (i:=18) (v:=.string (((({data:=#[69,0]}++⟨#[gJ ((20+(load.size:Int))/256),gJ (20+(load.size:Int))]⟩:ByteArray)++⟨#[gJ (id/256),gJ id]⟩:ByteArray)++ {data:=#[64,0]}:ByteArray)++ {data:=#[gJ ttl,gJ pr]}:ByteArray)) rfl (by kernel_rfl) (by kernel_rfl) (by kernel_rfl) (fun _ _ _ h=>h) (au ⟨by rfl,?_⟩) hB19 ?_
      ·intro u hu;go_simp
      try simp only[Act.put,ae,ah,af]
      refine wpAnyH_ready (rs:=[19]) (by kernel_rfl) (by simp) ?_
      refine AllReadyH.cons rfl (fun K hK=> ?_) AllReadyH.nil
      ·go_simp
       refine hK.out _ _ hB19 (fun _=> ?_)
       clear hK K
       try simp only[Act.put,ae,ah,af]
       refine VG (by kernel_rfl) ?_ _
       go_wp2
       go_meet
       exact⟨aZ Value.string (aC (aJ (by simp[aO]))),hB19⟩
   ·have hv21:=wG _ (w.heap.size+1) ttl pr ht' hp ca13 cb13
    go_simp
    refine hK.out _ _ hB13 (fun _=> ?_)
    clear hK K hv21
    try simp only[Act.put,ae,ah,af]
    refine wpAnyH_ready (rs:=[4]) (by kernel_rfl) (by simp) ?_
    refine AllReadyH.cons rfl (fun K hK=> ?_) AllReadyH.nil
    ·go_simp
     refine(jG _ _ (by omega) (by omega)).mono ?_
     rintro ee u22 ⟨rfl,hb22⟩
     have hB22:gm (w.heap.size+1) (w.alloc (.cells (rU id ttl pr fr ta load) 120)) u22:=hB13.trans (hb22.mono (sizes hB13))
     have ca22:=(hb22.cell (p:=(a_ (w.heap.size+1) 0)) (pJ ca13)).trans ca13
     have cb22:=(hb22.cell (p:=(a_ (w.heap.size+1) 1)) (pJ cb13)).trans cb13
     refine hK.out _ _ hB22 (fun _=> ?_)
     clear hK K hb22
     try simp only[Act.put,ae,ah,af]
     refine Vo (i:=5) (v:=.string ({data:=#[69,0]}++⟨#[gJ ((20+(load.size:Int))/256),gJ (20+(load.size:Int))]⟩:ByteArray)) rfl (by kernel_rfl) (by kernel_rfl) (by kernel_rfl) (fun _ _ _ h=>h) (au ⟨by rfl,?_⟩) hB22 ?_
     ·intro u hu;go_simp
     try simp only[Act.put,ae,ah,af]
     refine wpAnyH_ready (rs:=[9]) (by kernel_rfl) (by simp) ?_
     refine AllReadyH.cons rfl (fun K hK=> ?_) AllReadyH.nil
     ·go_simp
      refine(jG _ _ (by omega) (by omega)).mono ?_
      rintro ee u23 ⟨rfl,hb23⟩
      have hB23:gm (w.heap.size+1) (w.alloc (.cells (rU id ttl pr fr ta load) 120)) u23:=hB22.trans (hb23.mono (sizes hB22))
      have ca23:=(hb23.cell (p:=(a_ (w.heap.size+1) 0)) (pJ ca22)).trans ca22
      have cb23:=(hb23.cell (p:=(a_ (w.heap.size+1) 1)) (pJ cb22)).trans cb22
      refine hK.out _ _ hB23 (fun _=> ?_)
      clear hK K hb23
      try simp only[Act.put,ae,ah,af]
      refine Vo (i:=10) (v:=.string (({data:=#[69,0]}++⟨#[gJ ((20+(load.size:Int))/256),gJ (20+(load.size:Int))]⟩:ByteArray)++⟨#[gJ (id/256),gJ id]⟩:ByteArray)) rfl (by kernel_rfl) (by kernel_rfl) (by kernel_rfl) (fun _ _ _ h=>h) (au ⟨by rfl,?_⟩) hB23 ?_
      ·intro u hu;go_simp
      try simp only[Act.put,ae,ah,af]
      refine Vo (i:=11) (v:=.string ((({data:=#[69,0]}++⟨#[gJ ((20+(load.size:Int))/256),gJ (20+(load.size:Int))]⟩:ByteArray)++⟨#[gJ (id/256),gJ id]⟩:ByteArray)++ {data:=#[64,0]}:ByteArray)) rfl (by kernel_rfl) (by kernel_rfl) (by kernel_rfl) (fun _ _ _ h=>h) (au ⟨by rfl,?_⟩) hB23 ?_
      ·intro u hu;go_simp
      try simp only[Act.put,ae,ah,af]
      refine Vo (i:=18) (v:=.string (((({data:=#[69,0]}++⟨#[gJ ((20+(load.size:Int))/256),gJ (20+(load.size:Int))]⟩:ByteArray)++⟨#[gJ (id/256),gJ id]⟩:ByteArray)++ {data:=#[64,0]}:ByteArray)++ {data:=#[gJ ttl,gJ pr]}:ByteArray)) rfl (by kernel_rfl) (by kernel_rfl) (by kernel_rfl) (fun _ _ _ h=>h) (au ⟨by rfl,?_⟩) hB23 ?_
      ·intro u hu;go_simp
      try simp only[Act.put,ae,ah,af]
      refine wpAnyH_ready (rs:=[19]) (by kernel_rfl) (by simp) ?_
      refine AllReadyH.cons rfl (fun K hK=> ?_) AllReadyH.nil
      ·go_simp
       refine hK.out _ _ hB23 (fun _=> ?_)
       clear hK K
       try simp only[Act.put,ae,ah,af]
       refine VG (by kernel_rfl) ?_ _
       go_wp2
       go_meet
       exact⟨aZ Value.string (aC (aJ (by simp[aO]))),hB23⟩
 case rest=>
  obtain⟨rfl,hB1⟩:=hcut
  rename fV=>wc
  rw[<-gB HA]
  have hcc1:=jw hB1
  have hzz1:=sizes hB1
  go_wp2
  go_region_held3 (fun u=>u.cell? (a_ w.heap.size 3)=some (Vb Vf fr)/\u.cell? (a_ w.heap.size 4)=some (Vb Vf ta)) (go_keep)
   (first|(go_at_call 91;refine(pW _ _ (by omega) (by omega)).mono ?_;rintro ee u1 ⟨rfl,hb1⟩;have hB1:gm (w.heap.size+1) (w.alloc (.cells (rU id ttl pr fr ta load) 120)) u1:=(by first|exact hB1.trans (hb1.mono (sizes hB1))|exact hB1.drew.trans (hb1.mono (sizes hB1.drew)));have hcc1:=jw hB1;have hzz1:=sizes hB1;clear hb1))
  rw[<-gB HBB]
  go_wp2
  go_region_held3 (fun u=>u.cell? (a_ w.heap.size 5)=some (.string load)) (go_keep)
   (first|(go_at_call 104;refine(HCk _).mono ?_;rintro ee u1 ⟨rfl,nn,hu1⟩;have hB1:gm (w.heap.size+1) (w.alloc (.cells (rU id ttl pr fr ta load) 120)) u1:=(by rw[hu1];exact Ud.below_drewN hB1.drew nn);have hcc1:=jw hB1;have hzz1:=sizes hB1;clear hu1)|(go_at_call 131;refine(jG _ _ (by omega) (by omega)).mono ?_;rintro ee u1 ⟨rfl,hb1⟩;have hB1:gm (w.heap.size+1) (w.alloc (.cells (rU id ttl pr fr ta load) 120)) u1:=(by first|exact hB1.trans (hb1.mono (sizes hB1))|exact hB1.drew.trans (hb1.mono (sizes hB1.drew)));have hcc1:=jw hB1;have hzz1:=sizes hB1;clear hb1))
  go_wp2
  go_ret2
  refine⟨lZ HFin,?_⟩
  exact((R9 _ w).alloc (ai _) _).trans (hB1.mono (by omega))
end Ip
end Go.Proofs.YtbhbbeebncmaiaaGreatDoor
