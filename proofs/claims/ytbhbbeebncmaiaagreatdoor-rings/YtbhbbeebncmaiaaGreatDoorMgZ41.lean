import Derived.Test.YtbhbbeebncmaiaaGreatDoorMgZ35
import Derived.Test.YtbhbbeebncmaiaaGreatDoorMgZ36
import Derived.Test.YtbhbbeebncmaiaaGreatDoorMgZ37
import Derived.Test.YtbhbbeebncmaiaaGreatDoorMgZ39
import Derived.Test.YtbhbbeebncmaiaaGreatDoorMgZ05
import Derived.Test.YtbhbbeebncmaiaaGreatDoorMgZ40
namespace Go.Proofs.YtbhbbeebncmaiaaGreatDoor.Ref
open Go.ChangeShapes Go.WideShapes Go.ChangeAt Go.RowKit Bs Mac
set_option linter.unusedVariables false
set_option linter.unusedSimpArgs false
variable {w0 : World} {P : Nat → Prop} {w w' : World} {G : Nat} {r r' : Rf}
theorem frame_off (h:Rm w0 P w G r) (hl:r.lease=0) (hph:r.phase=0) (hc:r.cv=.slice none 0 0) (s:ByteArray) (hs:s.size≤262144) :
  Calls Tryz.prog 44 #[.pointer (some ⟨G,0,none⟩),.string s] w fun ee w'=>ee=.returned (.tuple #[])∧Rm w0 P w' G r:=by
 obtain ⟨a0,a1,a2,a3,a4,a5,a6,a7,a8,a9,a10,a11,ty,ld,k,_,hE,hld⟩:=RB.eth.ether_both s hs
 by_cases hk:k=0
 case neg=>exact frame_err h s a0 a1 a2 a3 a4 a5 a6 a7 a8 a9 a10 a11 ty ld k hE hk
 cases hT:toMeR r a0 a1 a2 a3 a4 a5 with
 | false=>exact frame_other h s a0 a1 a2 a3 a4 a5 a6 a7 a8 a9 a10 a11 ty ld k hE hk hT
 | true =>
  by_cases hA:ty=2054
  ·obtain ⟨op,f0,f1,f2,f3,f4,f5,fip,t0,t1,t2,t3,t4,t5,tip,kA,_,hR⟩:=RB.arp.arp_both ld (by simp only [maxLen]; omega)
   by_cases hkA:kA=0
   ·exact frame_arp h s a0 a1 a2 a3 a4 a5 a6 a7 a8 a9 a10 a11 ty ld k op f0 f1 f2 f3 f4 f5 fip t0 t1 t2 t3 t4 t5 tip kA hR hE hk hT hA hkA (fun w0 P u hu=>arp_off hu (by omega) hc op f0 f1 f2 f3 f4 f5 fip t0 t1 t2 t3 t4 t5 tip)
   ·exact frame_arp_no h s a0 a1 a2 a3 a4 a5 a6 a7 a8 a9 a10 a11 ty ld k op f0 f1 f2 f3 f4 f5 fip t0 t1 t2 t3 t4 t5 tip kA hR hE hk hT hA hkA
  by_cases hB:ty=2048
  case neg=>exact frame_else h s a0 a1 a2 a3 a4 a5 a6 a7 a8 a9 a10 a11 ty ld k hE hk hT hA hB
  obtain ⟨id,ttl,pr,fr,ta,ld1,k1,_,hI,hfr,hta,hz1⟩:=RB.ip_both ld (by omega)
  by_cases hk1:k1=0
  case neg=>exact frame_ip_no h s a0 a1 a2 a3 a4 a5 a6 a7 a8 a9 a10 a11 ty ld k id ttl pr fr ta ld1 k1 hI hE hk hT hB hk1
  by_cases hpr:pr=17
  case neg=>exact frame_ip_other h s a0 a1 a2 a3 a4 a5 a6 a7 a8 a9 a10 a11 ty ld k id ttl pr fr ta ld1 k1 hI hE hk hT hB hk1 hpr
  obtain ⟨f,t,ld2,k2,_,hU,hz2⟩:=RB.udp_both ld1 fr ta (by omega) hfr hta
  by_cases hk2:k2=0
  case neg=>exact frame_udp_no h s a0 a1 a2 a3 a4 a5 a6 a7 a8 a9 a10 a11 ty ld k id ttl pr fr ta ld1 k1 hI f t ld2 k2 hU hE hk hT hB hk1 hpr hk2
  by_cases ht:t=68
  case neg=>exact frame_tftp_idle h s a0 a1 a2 a3 a4 a5 a6 a7 a8 a9 a10 a11 ty ld k id ttl pr fr ta ld1 k1 hI f t ld2 k2 hU hE hk hT hB hk1 hpr hk2 ht hph
  rcases RB.dh.dhcp_both ld2 (by omega) with ⟨kD,hkD,_,hD⟩ | ⟨rep,xid,cl,yo,ne,d0,d1,d2,d3,d4,d5,os,hh,_,hD⟩
  ·exact frame_dhcp_no h s a0 a1 a2 a3 a4 a5 a6 a7 a8 a9 a10 a11 ty ld k id ttl pr fr ta ld1 k1 hI f t ld2 k2 hU kD hD hE hk hT hB hk1 hpr hk2 ht hkD
  ·have hlen:os.length≤268435456:=by unfold Dh.heavy at hh; omega
   cases rep with
   | false=>exact frame_dhcp_ask h s a0 a1 a2 a3 a4 a5 a6 a7 a8 a9 a10 a11 ty ld k id ttl pr fr ta ld1 k1 hI f t ld2 k2 hU xid cl yo ne d0 d1 d2 d3 d4 d5 os hD hE hk hT hB hk1 hpr hk2 ht
   | true =>
    by_cases hx:xid=r.xid
    case neg=>exact frame_dhcp_xid h s a0 a1 a2 a3 a4 a5 a6 a7 a8 a9 a10 a11 ty ld k id ttl pr fr ta ld1 k1 hI f t ld2 k2 hU xid cl yo ne d0 d1 d2 d3 d4 d5 os hD hE hk hT hB hk1 hpr hk2 ht hx
    cases hcd:(d0==(r.k0.toNat:Int)&&d1==(r.k1.toNat:Int)&&d2==(r.k2.toNat:Int)&&d3==(r.k3.toNat:Int)&&d4==(r.k4.toNat:Int)&&d5==(r.k5.toNat:Int)) with
    | false=>exact frame_dhcp_card h s a0 a1 a2 a3 a4 a5 a6 a7 a8 a9 a10 a11 ty ld k id ttl pr fr ta ld1 k1 hI f t ld2 k2 hU xid cl yo ne d0 d1 d2 d3 d4 d5 os hD hE hk hT hB hk1 hpr hk2 ht hx hcd
    | true=>exact frame_dhcp h s a0 a1 a2 a3 a4 a5 a6 a7 a8 a9 a10 a11 ty ld k id ttl pr fr ta ld1 k1 hI f t ld2 k2 hU xid cl yo ne d0 d1 d2 d3 d4 d5 os hD hE hk hT hB hk1 hpr hk2 ht hx hcd (fun w0 P u v hu hH=>dhcp_off hu (by omega) true xid cl yo ne d0 d1 d2 d3 d4 d5 v os hH hlen)
theorem dull_off (hl:r.lease=0) (hph:r.phase=0) (hc:r.cv=.slice none 0 0) (hs:∀ s ∈ r.rl,s.size≤262144):DullR G r :=
 fun w0 P w k v s hm h=>frame_off h hl hph hc s (hs s hm)
end Go.Proofs.YtbhbbeebncmaiaaGreatDoor.Ref
namespace Go.Proofs.YtbhbbeebncmaiaaGreatDoor.Law
open Go.ChangeShapes Go.WideShapes Go.ChangeAt Go.RowKit Bs Mac Ref
set_option linter.unusedVariables false
set_option linter.unusedSimpArgs false
variable {R : Mc → Rf → Prop} {w0 w w' : World} {Wb : Nat} {tv bv : Value} {L : List Pr}
structure Opx where
 kd:Int
 a:Int
 n:Int
 c:Cfg
 s:ByteArray
def Opx.vals (o:Opx):Array Value:=#[.int .i64 o.kd,.int .i64 o.a,.int .i64 o.n,.int .u8 o.c.k0.toNat,.int .u8 o.c.k1.toNat,.int .u8 o.c.k2.toNat,.int .u8 o.c.k3.toNat,.int .u8 o.c.k4.toNat,.int .u8 o.c.k5.toNat,.string o.c.name,.int .i64 o.c.cap,.string o.c.dig,.int .i64 o.c.blk,.int .i64 o.c.win,.int .i64 o.c.rx,.int .i64 o.c.tx,.string o.s]
theorem wrapS (n:Int) (h0:-9223372036854775808≤n) (h1:n≤9223372036854775807):IntKind.i64.wrap n=n:=by
 first | (rw [IntKind.wrap_i64]; omega) | (simp [IntKind.wrap]; omega) | (rw [IntKind.wrap_i64]; split <;> omega)
theorem pick_any (a:Int) (n:Nat) (h0:0<n) (h1:n≤65536) (ha:-9223372036854775808≤a∧a≤9223372036854775807) (w:World):∃ i:Nat,i<n∧∀ w,Calls Tryz.prog 14 #[.int .i64 a,.int .i64 n] w fun e w'=>e=.returned (.int .i64 i)∧w'=w:=by
 have hn0:¬ (n:Int)=0:=by omega
 by_cases hneg:a<0
 ·obtain ⟨b,hb⟩:∃ b:Nat,(b:Int)=-(a+1):=⟨(-(a+1)).toNat,by omega⟩
  refine ⟨b % n,Nat.mod_lt _ h0,fun w=>?_⟩
  have hw1:IntKind.i64.wrap (a+1)=a+1:=wrapS _ (by omega) (by omega)
  have hw2:IntKind.i64.wrap (-(a+1))=(b:Int):=by rw [hb]; exact wrap_i64 _ (by omega) (by omega)
  have hmod:=mod_nat b n
  have hlt:=Nat.mod_lt b h0
  generalize b % n=j at *
  clear hb
  go_enter Tryz.func14,Tryz.ntmps14
  go_wp2
  go_ret
  exact ⟨by simp [hmod],rfl⟩
 ·obtain ⟨b,rfl⟩:∃ b:Nat,a=(b:Int):=⟨a.toNat,by omega⟩
  refine ⟨b % n,Nat.mod_lt _ h0,fun w=>?_⟩
  have hmod:=mod_nat b n
  have hlt:=Nat.mod_lt b h0
  generalize b % n=j at *
  go_enter Tryz.func14,Tryz.ntmps14
  go_wp2
  go_ret
  exact ⟨by simp [hmod],rfl⟩

theorem Ws.grHalf (h:Ws R w0 w Wb tv bv L) (i:Nat) (hi:i<L.length) {u:World} {m':Mc} (hc:Bx w (Foot L[i].B L[i].m) u L[i].Q L[i].B m'):Gr u:=fun j hj=>by
 have hlt:0<w0.heap.size:=Nat.lt_of_lt_of_le (show 0<9 by decide) h.ng
 have e:=hc.mx.kept 0 (Nat.lt_of_lt_of_le hlt h.below.size) (fun hf=>by have:=(h.low i hi _ (Or.inr (Or.inl hf))).1; omega)
 exact (World.cell?_of_block (a:=⟨0,j,none⟩) e).trans (h.grw j hj)
theorem Ws.refHalf (h:Ws R w0 w Wb tv bv L) (i:Nat) (hi:i<L.length) {u:World} {m':Mc} (hc:Bx w (Foot L[i].B L[i].m) u L[i].Q L[i].B m'):Rm u (FootR L[i].G L[i].r) u L[i].G L[i].r :=
 rm_move (h.ok i hi).rm (fun k hk=>hc.mx.kept k ((h.ok i hi).rm.foot_lt hk) (fun hf=>(h.ok i hi).dis k (Or.inr hf) hk)) hc.mx.size (h.grHalf i hi hc)
theorem Ws.both (h:Ws R w0 w Wb tv bv L) (i:Nat) (hi:i<L.length) {u u2:World} {m':Mc} {r':Rf} (hc:Bx w (Foot L[i].B L[i].m) u L[i].Q L[i].B m') (hr:Rm u (FootR L[i].G L[i].r) u2 L[i].G r') (hrel:R m' r') :
  Ws R w0 u2 Wb tv bv (L.set i ⟨L[i].Q,L[i].B,L[i].G,m',r'⟩):=by
 have hok:=h.ok i hi
 have hF:∀ k,Foot L[i].B m' k→¬ FootR L[i].G L[i].r k:=fun k hk hk2=>by
  rcases hc.mx.own k hk with e | e
  ·exact hok.dis k (Or.inr e) hk2
  ·have:=hok.rm.foot_lt hk2; omega
 have hFl:∀ k,Foot L[i].B m' k→k<u.heap.size:=fun k hk=>hc.mx.foot_lt hk
 have hQl:=hok.bx.lt
 have hQn:¬ FootR L[i].G L[i].r L[i].Q:=hok.dis _ (Or.inl rfl)
 refine h.turn i hi _ rfl rfl (hr.os.trans hc.mx.os) (hr.tape.trans hc.mx.tape) (hr.output.trans hc.mx.output) (Nat.le_trans hc.mx.size hr.size) (fun k hk hn=>?_) (fun hgl hgr=>?_) (fun k hk=>?_)
 ·exact (hr.kept k (Nat.lt_of_lt_of_le hk hc.mx.size) (fun hf=>hn (Or.inr (Or.inr hf)))).trans (hc.mx.kept k hk (fun hf=>hn (Or.inr (Or.inl hf))))
 ·exact
  {bx:=⟨mx_move hc.mx (fun k hk=>hr.kept k (hFl k hk) (hF k hk)) hr.size hgl,(hr.kept _ hc.lt hQn).trans hc.row⟩
   rm:=hr.base
   dis:=fun k hk hk2=>by
    rcases hr.own k hk2 with e | e
    ·rcases hk with rfl | hk
     ·exact hQn e
     ·exact hF k hk e
    ·rcases hk with rfl | hk
     ·have:=hc.lt
      dsimp only at e
      omega
     ·have:=hFl k hk; omega
   rel:=hrel }
 ·rcases hk with e | e | e
  ·exact Or.inl (Or.inl e)
  ·rcases hc.mx.own k e with q | q
   ·exact Or.inl (Or.inr (Or.inl q))
   ·exact Or.inr q
  ·rcases hr.own k e with q | q
   ·exact Or.inl (Or.inr (Or.inr q))
   ·exact Or.inr (Nat.le_trans hc.mx.size q)
theorem Ws.refHalf' (h:Ws R w0 w Wb tv bv L) (i:Nat) (hi:i<L.length) {p:Pr} (hp:L[i]=p) {u:World} {m':Mc} (hc:Bx w (Foot p.B p.m) u p.Q p.B m'):Rm u (FootR p.G p.r) u p.G p.r:=by
 subst hp
 exact h.refHalf i hi hc
theorem Ws.both' (h:Ws R w0 w Wb tv bv L) (i:Nat) (hi:i<L.length) {p:Pr} (hp:L[i]=p) {u u2:World} {m':Mc} {r':Rf} (hc:Bx w (Foot p.B p.m) u p.Q p.B m') (hr:Rm u (FootR p.G p.r) u2 p.G r') (hrel:R m' r') :
  Ws R w0 u2 Wb tv bv (L.set i ⟨p.Q,p.B,p.G,m',r'⟩):=by
 subst hp
 exact h.both i hi hc hr hrel
structure RingR (m:Mc) (r:Rf):Prop where
 st:m.st=0
 cd:m.cd=.map []
 fe:m.fetching=false
 gq:m.gq=[]
 lease:r.lease=0
 phase:r.phase=0
 cv:r.cv=.slice none 0 0
 tl:r.tl=[]
 rl:r.rl=m.cq
 rx:r.rx=m.rx
 sz:∀ s ∈ m.cq,s.size≤65536
theorem refPut {P:Nat→Prop} {G:Nat} {r:Rf} (h:Rm w0 P w G r) (s:ByteArray) (hl:r.rl.length≤r.rx) (hx:r.rx≤16):Calls Tryz.prog 18 #[.pointer (some ⟨G,0,none⟩),.string s] w fun ee w'=>ee=.returned (.bool (decide (r.rl.length<r.rx)))∧∃ v,Rm w0 P w' G (if r.rl.length<r.rx then r.putV s v else r):=by
 by_cases hr:r.rl.length<r.rx
 ·refine (put_room h s hr hx).mono ?_
  rintro ee u ⟨rfl,v,hu⟩
  exact ⟨by simp [hr],v,by rw [if_pos hr]; exact hu⟩
 ·refine (put_full h s (by omega)).mono ?_
  rintro ee u ⟨rfl,hu⟩
  exact ⟨by simp [hr],.slice none 0 0,by rw [if_neg hr]; exact hu⟩
theorem ring_put {m:Mc} {r:Rf} (h:RingR m r) (s:ByteArray) (hs:s.size≤65536) (v:Value):RingR (m.put s) (if r.rl.length<r.rx then r.putV s v else r):=by
 have e1:r.rl.length=m.cq.length:=by rw [h.rl]
 have e2:=h.rx
 unfold Mc.put
 by_cases hr:m.cq.length<m.rx
 ·rw [if_pos hr,if_pos (by omega)]
  exact ⟨h.st,h.cd,h.fe,h.gq,h.lease,h.phase,h.cv,h.tl,by show r.rl++[s]=m.cq++[s]; rw [h.rl],h.rx,fun x hx=>by
   rcases List.mem_append.1 hx with q | q
   ·exact h.sz x q
   ·rw [List.mem_singleton.1 q]; exact hs⟩
 ·rw [if_neg hr,if_neg (by omega)]
  exact h
theorem ring_poll {m:Mc} {r:Rf} (h:RingR m r) (k:Nat) (v:Value):RingR (m.cameN k) (r.cameV k v) :=
 ⟨h.st,h.cd,h.fe,h.gq,h.lease,h.phase,h.cv,h.tl,by show r.rl.drop k=m.cq.drop k; rw [h.rl],h.rx,fun x hx=>h.sz x (List.mem_of_mem_drop hx)⟩
end Go.Proofs.YtbhbbeebncmaiaaGreatDoor.Law
