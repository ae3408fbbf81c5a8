import Derived.Test.YtdgacidndknceaaGreatDoorMgA
set_option linter.all false
set_option maxHeartbeats 400000
open Go.ChangeShapes Go.WideShapes Go.ChangeAt Go.RowKit
open Go.Proofs.Tryz
namespace Go.Proofs.YtdgacidndknceaaGreatDoor
namespace pQ
def fold(n:Int):Int:=if n=0 then 0 else 1+(n-1)%65535
def jL:List UInt8->Int
 |[]=>0
 |[a]=>256*(a.toNat:Int)
 |a::b::r=>256*(a.toNat:Int)+(b.toNat:Int)+jL r
theorem uZ(n:Int)(h0:0<=n)(h1:n<=65535):fold n=n:=by
 unfold fold;split<;>omega
theorem PD(n:Int)(h0:0<=n):0<=fold n/\fold n<=65535:=by
 unfold fold;split<;>omega
theorem Kv(c x r:Int)(h0:0<=c)(h2:0<=x)(h4:65536<=c+x)(hr:0<=r):
  fold (c+x-65535+r)=fold (c+(x+r)):=by
 unfold fold;rw[ax (by omega),ax (by omega)];omega
theorem tN:∀l:List UInt8,0<=jL l
 |[]=>by simp[jL]
 |[a]=>by simp[jL];omega
 |a::b::r=>by have:=tN r;simp only[jL];omega
theorem Md(l:List UInt8)(k:Nat)(h:k+1<l.length):l.drop k=l[k]::l[k+1]::l.drop (k+2):=by
 rw[aV (by omega),aV (by omega:k+1<l.length)]
theorem drop_one(l:List UInt8)(k:Nat)(h:k+1=l.length):l.drop k=[l[k]]:=by
 rw[aV (by omega),cK (by omega)]
theorem AQ(l:List UInt8)(k:Nat)(h:k+1<l.length):
  jL (l.drop k)=256*(l[k].toNat:Int)+(l[k+1].toNat:Int)+jL (l.drop (k+2)):=by
 rw[Md l k h,jL]
theorem MH(l:List UInt8)(k:Nat)(h:k+1=l.length):
  jL (l.drop k)=256*(l[k].toNat:Int):=by
 rw[drop_one l k h,jL]
theorem tX(l:List UInt8)(k:Nat)(h:l.length<=k):jL (l.drop k)=0:=by
 rw[cK h,jL]
theorem M0{p:Prop}(h:p):Hid p:=h
theorem gB{p:Prop}(h:Hid p):p:=h
theorem nM{k:IntKind}{a b:Int}(h:a=b):Ending.returned (.int k a)=.returned (.int k b):=by rw[h]
theorem zW(a b:Nat)(ha:a<256)(hb:b<256):
  bits .or .u16 ((a:Int)*256) (b:Int)=256*(a:Int)+(b:Int):=by
 have e1:(a:Int)*256=((256*a:Nat):Int):=by omega
 rw[e1,u16_or_nat _ _ (by omega) (by omega),nat_join 8 _ _ (by omega) (by omega)]
 omega
theorem KG(a:Nat)(h:a<65536):65535 ^^^ a=65535-a:=by
 have e:=aZ BitVec.toNat (BitVec.xor_allOnes (x:=BitVec.ofNat 16 a))
 rw[BitVec.toNat_xor,BitVec.toNat_not,BitVec.toNat_ofNat,BitVec.toNat_allOnes]at e
 rw[dK (by omega:a<2 ^ 16)]at e
 rw[Nat.xor_comm]
 simpa using e
theorem OB(c:Int)(h0:0<=c)(h1:c<=65535):bits .xor .u16 IntKind.u16.max c=65535-c:=by
 have e:IntKind.u16.max=65535:=by decide
 rw[e,u16_xor 65535 c (by omega) (by omega) h0 (by omega)]
 rw[show(65535:Int).toNat=65535 from rfl,KG c.toNat (by omega)]
 omega
theorem OX(c x:Int)(h0:0<=c)(h1:c<=65535)(h2:0<=x)(h3:x<=65535)(h:IntKind.u16.wrap (c+x)<x):
  65536<=c+x/\IntKind.u16.wrap (IntKind.u16.wrap (c+x)+1)=c+x-65535:=by
 simp only[Vu]at*;omega
theorem Qg(c x:Int)(h0:0<=c)(h1:c<=65535)(h2:0<=x)(h3:x<=65535)(h:x<=IntKind.u16.wrap (c+x)):
  c+x<=65535/\IntKind.u16.wrap (c+x)=c+x:=by
 simp only[Vu]at*;omega
theorem M6(c x r t:Int)(h0:0<=c)(h1:c<=65535)(h2:0<=x)(h3:x<=65535)(hr:0<=r)(h:IntKind.u16.wrap (c+x)<x)(hf:fold (c+(x+r))=t):
  0<=IntKind.u16.wrap (IntKind.u16.wrap (c+x)+1)/\IntKind.u16.wrap (IntKind.u16.wrap (c+x)+1)<=65535/\fold (IntKind.u16.wrap (IntKind.u16.wrap (c+x)+1)+r)=t:=by
 obtain⟨a,b⟩:=OX c x h0 h1 h2 h3 h
 rw[b]
 exact⟨by omega,by omega,by rw[Kv c x r h0 h2 a hr];exact hf⟩
theorem N_(c x r t:Int)(h0:0<=c)(h1:c<=65535)(h2:0<=x)(h3:x<=65535)(h:x<=IntKind.u16.wrap (c+x))(hf:fold (c+(x+r))=t):
  0<=IntKind.u16.wrap (c+x)/\IntKind.u16.wrap (c+x)<=65535/\fold (IntKind.u16.wrap (c+x)+r)=t:=by
 obtain⟨a,b⟩:=Qg c x h0 h1 h2 h3 h
 rw[b]
 exact⟨by omega,by omega,by rw[Int.add_assoc];exact hf⟩
theorem uW(s:ByteArray)(w:World)(hs:s.size<=1099511627776):
  Calls prog 108 #[.string s] w fun e w'=>e=.returned (.int .u16 (65535-fold (jL s.data.toList)))/\w'=w:=by
 have hlen:Hid (s.data.toList.length=s.size):=M0 (by rw[aF];rfl)
 go_enter func108,ntmps108
 go_wp2
 go_loop [3,4] (fun n i=>∃(k:Nat) (c:Int),k<=s.size+1/\0<=c/\c<=65535/\i=.int .i64 k/\n=.int .u16 c/\Hid (fold (c+jL (s.data.toList.drop k))=fold (jL s.data.toList))) (fun _ i=>s.size+1-(intOf i).toNat)
 case atStart=>exact⟨0,0,aN _,by omega,by omega,rfl,rfl,M0 (by simp)⟩
 case round=>
  obtain⟨k,c,hk,hc0,hc1,rfl,rfl,HF⟩:=hrel
  by_cases hlt:k<s.size
  ·by_cases hlt1:k+1<s.size
   ·have ha:s[k].toNat<256:=s[k].toNat_lt
    have hb:s[k+1].toNat<256:=s[k+1].toNat_lt
    have HW:=M0 (zW s[k].toNat s[k+1].toNat ha hb)
    have hr:=tN (s.data.toList.drop (k+2))
    have HT:Hid (fold (c+(256*(s[k].toNat:Int)+(s[k+1].toNat:Int)+jL (s.data.toList.drop (k+2))))=fold (jL s.data.toList)):=by
     have e:=AQ s.data.toList k (by rw[gB hlen];exact hlt1)
     rw[<-gB HF,e];rfl
    go_wp2
    ·rename_i hcmp
     rw[gB HW]at hcmp
     obtain⟨e1,e2,e3⟩:=M6 c _ _ _ hc0 hc1 (by omega) (by omega) hr hcmp HT
     go_round
     case rel=>rw[gB HW];exact⟨k+2,_,by omega,e1,e2,by go_num,rfl,M0 e3⟩
     case measure=>simp[intOf];omega
    ·rename_i hcmp
     rw[gB HW]at hcmp
     obtain⟨e1,e2,e3⟩:=N_ c _ _ _ hc0 hc1 (by omega) (by omega) hcmp HT
     go_round
     case rel=>rw[gB HW];exact⟨k+2,_,by omega,e1,e2,by go_num,rfl,M0 e3⟩
     case measure=>simp[intOf];omega
   ·have ha:s[k].toNat<256:=s[k].toNat_lt
    have HT:Hid (fold (c+((s[k].toNat:Int)*256+0))=fold (jL s.data.toList)):=by
     have e:=MH s.data.toList k (by rw[gB hlen];omega)
     rw[<-gB HF,e];show fold _=fold _;congr 1;show _=c+256*(s[k].toNat:Int);omega
    have HZ:=M0 (tX s.data.toList (k+2) (by rw[gB hlen];omega))
    go_wp2
    ·rename_i hcmp
     obtain⟨e1,e2,e3⟩:=M6 c _ _ _ hc0 hc1 (by omega) (by omega) (by omega) hcmp HT
     go_round
     case rel=>exact⟨k+2,_,by omega,e1,e2,by go_num,rfl,M0 (by rw[gB HZ];exact e3)⟩
     case measure=>simp[intOf];omega
    ·rename_i hcmp
     obtain⟨e1,e2,e3⟩:=N_ c _ _ _ hc0 hc1 (by omega) (by omega) hcmp HT
     go_round
     case rel=>exact⟨k+2,_,by omega,e1,e2,by go_num,rfl,M0 (by rw[gB HZ];exact e3)⟩
     case measure=>simp[intOf];omega
  ·go_wp2
   go_ret
   refine⟨nM ?_,rfl⟩
   rw[OB c hc0 hc1,<-gB HF,tX _ _ (by rw[gB hlen];omega),uZ _ (by omega) (by omega)]
   omega
theorem wrap_i64(n:Int)(h0:0<=n)(h1:n<=9223372036854775807):IntKind.i64.wrap n=n:=by
 simp[IntKind.wrap,IntKind.bits,IntKind.signed];omega
end pQ
namespace Dh
def qc(c:UInt8)(d:List UInt8):List UInt8:=
 if 255<d.length then c::255::(d.take 255++qc c (d.drop 255))else c::UInt8.ofNat d.length::d
termination_by d.length
decreasing_by simp;omega
theorem ny(c:UInt8)(d:List UInt8)(h:255<d.length):qc c d=c::255::(d.take 255++qc c (d.drop 255)):=by
 rw[qc,ay h]
theorem mq(c:UInt8)(d:List UInt8)(h: ¬255<d.length):qc c d=c::UInt8.ofNat d.length::d:=by
 rw[qc,ax h]
theorem yB(c:UInt8)(d:List UInt8):(qc c d).length<=2*d.length+2:=by
 by_cases h:255<d.length
 ·have ih:=yB c (d.drop 255)
  rw[ny c d h]
  simp only[aj,ak,aT,aW]at ih ⊢
  omega
 ·rw[mq c d h]
  simp only[aj];omega
termination_by d.length
decreasing_by simp;omega
abbrev Pc:=UInt8×List UInt8
abbrev gU:=List Pc
def jb(os:gU):List UInt8:=os.flatMap fun o=>qc o.1 o.2
theorem oN(os:gU)(k:Nat)(h:k<os.length):jb (os.take (k+1))=jb (os.take k)++qc os[k].1 os[k].2:=by
 rw[jb,aL h,bK]
 simp[jb]
theorem qh(os:gU)(k:Nat):(jb (os.take k)).length<=(jb os).length:=by
 have e:jb os=jb (os.take k)++jb (os.drop k):=by
  rw[jb,jb,jb,<-bK,bV]
 rw[e,ak];omega
def heavy(os:gU):Nat:=os.length+(os.map fun o=>o.2.length).sum
theorem nS(os:gU):(jb os).length<=2*heavy os:=by
 induction os with
 |nil=>simp[jb,heavy]
 |cons o r ih=>
  have h:=yB o.1 o.2
  simp only[jb,heavy,bF,ak,aj,bH,dW]at ih ⊢
  omega
theorem uQ(os:gU)(k:Nat)(h:k<os.length):heavy (os.take (k+1))=heavy (os.take k)+1+os[k].2.length:=by
 simp only[heavy,aL h,bP,dU,ak,aj,aP,bH,dE,dW,List.sum_nil]
 omega
theorem vQ(os:gU)(k:Nat):heavy (os.take k)<=heavy os:=by
 have e:heavy os=heavy (os.take k)+heavy (os.drop k):=by
  have q:heavy (os.take k++os.drop k)=heavy (os.take k)+heavy (os.drop k):=by
   simp only[heavy,bP,dU,ak];omega
  rwa [bV]at q
 omega
theorem oD(os:gU)(k:Nat)(h:k<os.length):os[k].2.length<=heavy os:=by
 have:=uQ os k h
 have:=vQ os (k+1)
 omega
def sj(c:UInt8):Bool:=c.toNat==0||c.toNat==52||c.toNat==255
def bad(os:gU):Bool:=os.any fun o=>sj o.1
theorem z_{os:gU}{k:Nat}(h:k<os.length)(hb:sj os[k].1=true):bad os=true:=by
 simp only[bad,List.any_eq_true]
 exact⟨os[k],bz h,hb⟩
theorem tK{os:gU}{k:Nat}(h:k<os.length)(h0:bad (os.take k)=false)(hb:sj os[k].1=false):bad (os.take (k+1))=false:=by
 rw[aL h]
 simp only[bad,IA,eO,List.any_nil,fK]at h0 ⊢
 rw[h0,hb];rfl
def pieces(l:List UInt8):Option (List Pc):=
 match l with
 |[]=>none
 |c::r=>
  if c.toNat=255 then some []
  else if c.toNat=0 then pieces r
  else match r with
   |[]=>none
   |n::q=>if q.length<n.toNat then none else(pieces (q.drop n.toNat)).map fun ps=>(c,q.take n.toNat)::ps
termination_by l.length
decreasing_by all_goals (simp;try omega)
theorem qX:pieces []=none:=by rw[pieces]
theorem uS(c:UInt8)(r:List UInt8)(h:c.toNat=255):pieces (c::r)=some []:=by rw[pieces.eq_def];exact ay h
theorem sW(c:UInt8)(r:List UInt8)(h:c.toNat=0):pieces (c::r)=pieces r:=by rw[pieces.eq_def];exact(ax (by omega)).trans (ay h)
theorem tV(c:UInt8)(h: ¬c.toNat=255)(h0: ¬c.toNat=0):pieces [c]=none:=by rw[pieces,ax h,ax h0]
theorem vB(c n:UInt8)(q:List UInt8)(h: ¬c.toNat=255)(h0: ¬c.toNat=0)(hq:q.length<n.toNat):pieces (c::n::q)=none:=by rw[pieces,ax h,ax h0];exact ay hq
theorem sD(c n:UInt8)(q:List UInt8)(h: ¬c.toNat=255)(h0: ¬c.toNat=0)(hq: ¬q.length<n.toNat):pieces (c::n::q)=(pieces (q.drop n.toNat)).map fun ps=>(c,q.take n.toNat)::ps:=by
 rw[pieces,ax h,ax h0];exact ax hq
def add(l:List Pc)(p:Pc):List Pc:=
 match l with
 |[]=> [p]
 |a::r=>if a.1=p.1 then(a.1,a.2++p.2)::r else a::add r p
def gW(l:List Pc)(ps:List Pc):List Pc:=ps.foldl add l
def has(l:List Pc)(c:UInt8):Bool:=l.any fun p=>p.1==c
def data(l:List Pc)(c:UInt8):List UInt8:=(l.filter fun p=>p.1==c).flatMap fun p=>p.2
def drop(l:List Pc)(c:UInt8):List Pc:=l.filter fun p=>p.1 !=c
theorem qj(p:Pc)(r:List Pc)(c:UInt8):data (p::r) c=(if p.1=c then p.2 else [])++data r c:=by
 simp only[data,bA]
 by_cases h:p.1=c
 ·rw[ay h,ay (by simpa using h),bF]
 ·rw[ax h,ax (by simpa using h),bY]
theorem wT(p:Pc)(r:List Pc)(c:UInt8):has (p::r) c=(p.1==c||has r c):=rfl
theorem aF7(l:List Pc)(c:UInt8)(h:has l c=false):data l c=[]:=by
 induction l with
 |nil=>rfl
 |cons p r ih=>
  rw[wT,gp]at h
  rw[qj,ax (by simpa using h.1),ih h.2];rfl
theorem Ow(l:List Pc)(c:UInt8)(h:has l c=false):drop l c=l:=by
 simp only[drop,List.filter_eq_self]
 intro p hp
 simp only[has,List.any_eq_false]at h
 have:=h p hp
 simpa using this
theorem j_(l a b:List Pc):gW l (a++b)=gW (gW l a) b:=by simp[gW]
def kM(d:List UInt8):Bool:=match d with|[x]=>decide (1<=x.toNat) && decide (x.toNat<=3)|_=>false
def m_(d:List UInt8):Bool:=match d with|[x]=>x.toNat%2==1|_=>false
def yX(d:List UInt8):Bool:=match d with|[x]=>decide (2<=x.toNat)|_=>false
def jZ(f h:Bool)(file host:List UInt8):Option (List Pc):=
 (if f then pieces file else some []).bind fun a=>(if h then pieces host else some []).bind fun b=>some (a++b)
def nE(main host file:List UInt8):Nat:=
 match pieces main with
 |none=>1
 |some ps=>if has ps 52 then(if kM (data ps 52)then(match jZ (m_ (data ps 52)) (yX (data ps 52)) file host with|none=>1|some m=>if has m 52 then 2 else 0)else 2)else 0
def oW(main host file:List UInt8):List Pc:=
 match pieces main with
 |none=> []
 |some ps=>if has ps 52 then(match jZ (m_ (data ps 52)) (yX (data ps 52)) file host with|none=> []|some m=>gW [] (drop ps 52++m))else gW [] ps
end Dh
end Go.Proofs.YtdgacidndknceaaGreatDoor
