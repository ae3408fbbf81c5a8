import Derived.Test.YtbhbbeebncmaiaaGreatDoorMgZ16
import Derived.Test.YtbhbbeebncmaiaaGreatDoorMgZ17
import Derived.Test.YtbhbbeebncmaiaaGreatDoorMgZ18
import Derived.Test.YtbhbbeebncmaiaaGreatDoorMgZ20
import Derived.Test.YtbhbbeebncmaiaaGreatDoorMgZ22
import Derived.Test.YtbhbbeebncmaiaaGreatDoorMgZ48
import Derived.Test.YtbhbbeebncmaiaaGreatDoorMgZ25
import Derived.Test.YtbhbbeebncmaiaaGreatDoorMgZ46
import Derived.Test.YtbhbbeebncmaiaaGreatDoorMgZ29
import Derived.Test.YtbhbbeebncmaiaaGreatDoorMgZ32
import Derived.Test.YtbhbbeebncmaiaaGreatDoorMgZ33
import Derived.Test.YtbhbbeebncmaiaaGreatDoorMgZ13
import Derived.Test.YtbhbbeebncmaiaaGreatDoorMgZ15
import Derived.Test.YtbhbbeebncmaiaaGreatDoorMgZ08
namespace Go.Proofs.YtbhbbeebncmaiaaGreatDoor.RB.eth
open Go.ChangeShapes Go.WideShapes Go.ChangeAt Go.RowKit Bs Rd EtR
set_option linter.unusedVariables false
theorem short14 (s:ByteArray) (hs:s.size<14) (u:World) (B:Nat) (h:Rdr u B s.data.toList) :
  Calls Tryz.prog 139 #[.pointer (some ⟨B,0,none⟩)] u fun ee w'=>ee=.panicked (errP 1)∧u.grownBy w' (some B):=by
 have hl:=len_str s
 generalize s.data.toList=l at h hl
 by_cases h6:l.length<6
 ·exact ether_short1 B l u h h6
 ·obtain ⟨a,b,c,d,e,f,r,rfl⟩:=sixth l (by omega)
  simp only [List.length_cons] at hl h6
  by_cases h12:r.length<6
  ·exact ether_short2 B a b c d e f r u h h12
  ·obtain ⟨a',b',c',d',e',f',q,rfl⟩:=sixth r (by omega)
   simp only [List.length_cons] at hl h12
   exact ether_short3 B a b c d e f a' b' c' d' e' f' q u h (by omega)

theorem fourteen (l:List UInt8) (h:14≤l.length):∃ a b c d e f a' b' c' d' e' f' t t' r,l=a::b::c::d::e::f::a'::b'::c'::d'::e'::f'::t::t'::r:=by
 match l,h with
 | a::b::c::d::e::f::a'::b'::c'::d'::e'::f'::t::t'::r,_=>exact ⟨a,b,c,d,e,f,a',b',c',d',e',f',t,t',r,rfl⟩

theorem ether_both (s:ByteArray) (hs:s.size≤262144):∃ a0 a1 a2 a3 a4 a5 a6 a7 a8 a9 a10 a11 ty ld k,(∀ u,Calls Tryz.prog 98 #[.string s] u fun e w'=>e=.returned (.tuple #[.agg #[.int .u8 a0,.int .u8 a1,.int .u8 a2,.int .u8 a3,.int .u8 a4,.int .u8 a5,.int .u8 a6,.int .u8 a7,.int .u8 a8,.int .u8 a9,.int .u8 a10,.int .u8 a11,.int .u16 ty,.string ld],.int .i64 k])∧Below u.heap.size u w')∧(∀ u,Calls Tryz.prog 65 #[.string s] u fun e w'=>e=.returned (.tuple #[.agg #[.int .u8 a0,.int .u8 a1,.int .u8 a2,.int .u8 a3,.int .u8 a4,.int .u8 a5,.int .u8 a6,.int .u8 a7,.int .u8 a8,.int .u8 a9,.int .u8 a10,.int .u8 a11,.int .u16 ty,.string ld],.int .i64 k])∧Below u.heap.size u w')∧ld.size≤s.size:=by
 by_cases h14:s.size<14
 ·refine ⟨0,0,0,0,0,0,0,0,0,0,0,0,0,⟨#[]⟩,1,(fun u=>wire_of s 0 0 0 0 0 0 0 0 0 0 0 0 0 ⟨#[]⟩ 1 u (fun u=>read_no s 1 u (short14 s h14))),(fun u=>Rr.ether_short s u h14),Nat.zero_le _⟩
 ·have hl:=len_str s
  have heta:=str_eta s
  obtain ⟨a,b,c,d,e,f,a',b',c',d',e',f',t,t',r,hlist⟩:=fourteen s.data.toList (by omega)
  have hr:r.length≤1099511627000:=by rw [hlist] at hl; simp only [List.length_cons] at hl; omega
  have hsr:s=⟨(a::b::c::d::e::f::a'::b'::c'::d'::e'::f'::t::t'::r).toArray⟩:=by rw [← hlist,heta]
  cases ht:Eth.okTy (256*(t.toNat:Int)+(t'.toNat:Int)) with
  | false =>
   refine ⟨0,0,0,0,0,0,0,0,0,0,0,0,0,⟨#[]⟩,3,(fun u=>wire_of s 0 0 0 0 0 0 0 0 0 0 0 0 0 ⟨#[]⟩ 3 u (fun u=>read_no s 3 u (fun u B h=>?_))),(fun u=>?_),Nat.zero_le _⟩
   ·rw [hlist] at h
    exact ether_type B a b c d e f a' b' c' d' e' f' t t' r u h hr ht
   ·rw [hsr]
    exact Rr.ether_type a b c d e f a' b' c' d' e' f' t t' r u hr ht
  | true =>
   cases hl':Eth.okLoad ⟨r.toArray⟩ with
   | false =>
    refine ⟨0,0,0,0,0,0,0,0,0,0,0,0,0,⟨#[]⟩,7,(fun u=>wire_of s 0 0 0 0 0 0 0 0 0 0 0 0 0 ⟨#[]⟩ 7 u (fun u=>read_no s 7 u (fun u B h=>?_))),(fun u=>?_),Nat.zero_le _⟩
    ·rw [hlist] at h
     exact ether_long B a b c d e f a' b' c' d' e' f' t t' r u h hr ht hl'
    ·rw [hsr]
     exact Rr.ether_long a b c d e f a' b' c' d' e' f' t t' r u hr ht hl'
   | true =>
    refine ⟨a.toNat,b.toNat,c.toNat,d.toNat,e.toNat,f.toNat,a'.toNat,b'.toNat,c'.toNat,d'.toNat,e'.toNat,f'.toNat,(256*(t.toNat:Int)+(t'.toNat:Int)),⟨r.toArray⟩,0,(fun u=>wire_of s a.toNat b.toNat c.toNat d.toNat e.toNat f.toNat a'.toNat b'.toNat c'.toNat d'.toNat e'.toNat f'.toNat (256*(t.toNat:Int)+(t'.toNat:Int)) ⟨r.toArray⟩ 0 u (fun u=>read_ok s a.toNat b.toNat c.toNat d.toNat e.toNat f.toNat a'.toNat b'.toNat c'.toNat d'.toNat e'.toNat f'.toNat (256*(t.toNat:Int)+(t'.toNat:Int)) ⟨r.toArray⟩ u (fun u B h=>?_))),(fun u=>?_),by rw [hsr]; simp [ByteArray.size]; omega⟩
    ·rw [hlist] at h
     exact ether_ok B a b c d e f a' b' c' d' e' f' t t' r u h hr ht hl'
    ·rw [hsr]
     exact Rr.ether_ok a b c d e f a' b' c' d' e' f' t t' r u hr ht hl'

end Go.Proofs.YtbhbbeebncmaiaaGreatDoor.RB.eth
namespace Go.Proofs.YtbhbbeebncmaiaaGreatDoor.RB.arp
open Go.ChangeShapes Go.WideShapes Go.ChangeAt Go.RowKit Bs Rd ArR
set_option linter.unusedVariables false
theorem many (l:List UInt8) (h:28≤l.length):∃ h1 h2 h3 h4 h5 h6 o o' a b c d e f i1 i2 i3 i4 a' b' c' d' e' f' j1 j2 j3 j4 r,l=h1::h2::h3::h4::h5::h6::o::o'::a::b::c::d::e::f::i1::i2::i3::i4::a'::b'::c'::d'::e'::f'::j1::j2::j3::j4::r:=by
 obtain ⟨h1,h2,h3,h4,h5,h6,l1,rfl⟩:=EtR.sixth l (by omega)
 simp only [List.length_cons] at h
 obtain ⟨o,o',a,b,c,d,l2,rfl⟩:=EtR.sixth l1 (by omega)
 simp only [List.length_cons] at h
 obtain ⟨e,f,i1,i2,i3,i4,l3,rfl⟩:=EtR.sixth l2 (by omega)
 simp only [List.length_cons] at h
 obtain ⟨a',b',c',d',e',f',l4,rfl⟩:=EtR.sixth l3 (by omega)
 simp only [List.length_cons] at h
 obtain ⟨j1,j2,l5,rfl⟩:=EtR.second l4 (by omega)
 simp only [List.length_cons] at h
 obtain ⟨j3,j4,r,rfl⟩:=EtR.second l5 (by omega)
 exact ⟨h1,h2,h3,h4,h5,h6,o,o',a,b,c,d,e,f,i1,i2,i3,i4,a',b',c',d',e',f',j1,j2,j3,j4,r,rfl⟩

theorem arp_both (s:ByteArray) (hm:s.size≤maxLen):∃ op f0 f1 f2 f3 f4 f5 fip t0 t1 t2 t3 t4 t5 tip k,(∀ u,Calls Tryz.prog 167 #[.string s] u fun e w'=>e=.returned (.tuple #[.agg #[.int .u16 op,.int .u8 f0,.int .u8 f1,.int .u8 f2,.int .u8 f3,.int .u8 f4,.int .u8 f5,.int .u32 fip,.int .u8 t0,.int .u8 t1,.int .u8 t2,.int .u8 t3,.int .u8 t4,.int .u8 t5,.int .u32 tip],.int .i64 k])∧Below u.heap.size u w')∧(∀ u,Calls Tryz.prog 66 #[.string s] u fun e w'=>e=.returned (.tuple #[.agg #[.int .u16 op,.int .u8 f0,.int .u8 f1,.int .u8 f2,.int .u8 f3,.int .u8 f4,.int .u8 f5,.int .u32 fip,.int .u8 t0,.int .u8 t1,.int .u8 t2,.int .u8 t3,.int .u8 t4,.int .u8 t5,.int .u32 tip],.int .i64 k])∧Below u.heap.size u w'):=by
 have hl:=len_str s
 by_cases h28:s.size<28
 ·refine ⟨0,0,0,0,0,0,0,0,0,0,0,0,0,0,0,1,(fun u=>wire_of s 0 0 0 0 0 0 0 0 0 0 0 0 0 0 0 1 u (fun u=>read_no s 1 u (fun u B h=>arp_short B _ u h (by omega)))),(fun u=>Rr.arp_short s u h28)⟩
 ·have heta:=str_eta s
  obtain ⟨h1,h2,h3,h4,h5,h6,o,o',a,b,c,d,e,f,i1,i2,i3,i4,a',b',c',d',e',f',j1,j2,j3,j4,r,hlist⟩:=many s.data.toList (by omega)
  have hml:(h1::h2::h3::h4::h5::h6::o::o'::a::b::c::d::e::f::i1::i2::i3::i4::a'::b'::c'::d'::e'::f'::j1::j2::j3::j4::r).length≤maxLen:=by rw [← hlist,hl]; exact hm
  have hr:r.length+28≤9223372036854775807:=by simp only [List.length_cons,maxLen] at hml; omega
  have hsr:s=⟨(h1::h2::h3::h4::h5::h6::o::o'::a::b::c::d::e::f::i1::i2::i3::i4::a'::b'::c'::d'::e'::f'::j1::j2::j3::j4::r).toArray⟩:=by rw [← hlist,heta]
  cases hh:okHead h1 h2 h3 h4 h5 h6 with
  | false =>
   refine ⟨0,0,0,0,0,0,0,0,0,0,0,0,0,0,0,2,(fun u=>wire_of s 0 0 0 0 0 0 0 0 0 0 0 0 0 0 0 2 u (fun u=>read_no s 2 u (fun u B h=>?_))),(fun u=>?_)⟩
   ·rw [hlist] at h
    exact arp_head B h1 h2 h3 h4 h5 h6 o o' a b c d e f i1 i2 i3 i4 a' b' c' d' e' f' j1 j2 j3 j4 r u h hml hh
   ·rw [hsr]
    exact Rr.arp_head h1 h2 h3 h4 h5 h6 o o' a b c d e f i1 i2 i3 i4 a' b' c' d' e' f' j1 j2 j3 j4 r u hr hh
  | true =>
   cases ho:(256*(o.toNat:Int)+(o'.toNat:Int)==1 || 256*(o.toNat:Int)+(o'.toNat:Int)==2) with
   | false =>
    have hne:¬ (256*(o.toNat:Int)+(o'.toNat:Int)=1)∧¬ (256*(o.toNat:Int)+(o'.toNat:Int)=2):=by simpa using ho
    refine ⟨0,0,0,0,0,0,0,0,0,0,0,0,0,0,0,2,(fun u=>wire_of s 0 0 0 0 0 0 0 0 0 0 0 0 0 0 0 2 u (fun u=>read_no s 2 u (fun u B h=>?_))),(fun u=>?_)⟩
    ·rw [hlist] at h
     exact arp_op B h1 h2 h3 h4 h5 h6 o o' a b c d e f i1 i2 i3 i4 a' b' c' d' e' f' j1 j2 j3 j4 r u h hml hh ho
    ·rw [hsr]
     by_cases h0:256*(o.toNat:Int)+(o'.toNat:Int)<1
     ·exact Rr.arp_op0 h1 h2 h3 h4 h5 h6 o o' a b c d e f i1 i2 i3 i4 a' b' c' d' e' f' j1 j2 j3 j4 r u hr hh h0
     ·exact Rr.arp_op3 h1 h2 h3 h4 h5 h6 o o' a b c d e f i1 i2 i3 i4 a' b' c' d' e' f' j1 j2 j3 j4 r u hr hh (by omega)
   | true =>
    have hne:(256*(o.toNat:Int)+(o'.toNat:Int)=1)∨(256*(o.toNat:Int)+(o'.toNat:Int)=2):=by simpa using ho
    refine ⟨(256*(o.toNat:Int)+(o'.toNat:Int)),a.toNat,b.toNat,c.toNat,d.toNat,e.toNat,f.toNat,(16777216*(i1.toNat:Int)+65536*(i2.toNat:Int)+256*(i3.toNat:Int)+(i4.toNat:Int)),a'.toNat,b'.toNat,c'.toNat,d'.toNat,e'.toNat,f'.toNat,(16777216*(j1.toNat:Int)+65536*(j2.toNat:Int)+256*(j3.toNat:Int)+(j4.toNat:Int)),0,(fun u=>wire_of s (256*(o.toNat:Int)+(o'.toNat:Int)) a.toNat b.toNat c.toNat d.toNat e.toNat f.toNat (16777216*(i1.toNat:Int)+65536*(i2.toNat:Int)+256*(i3.toNat:Int)+(i4.toNat:Int)) a'.toNat b'.toNat c'.toNat d'.toNat e'.toNat f'.toNat (16777216*(j1.toNat:Int)+65536*(j2.toNat:Int)+256*(j3.toNat:Int)+(j4.toNat:Int)) 0 u (fun u=>read_ok s (256*(o.toNat:Int)+(o'.toNat:Int)) a.toNat b.toNat c.toNat d.toNat e.toNat f.toNat (16777216*(i1.toNat:Int)+65536*(i2.toNat:Int)+256*(i3.toNat:Int)+(i4.toNat:Int)) a'.toNat b'.toNat c'.toNat d'.toNat e'.toNat f'.toNat (16777216*(j1.toNat:Int)+65536*(j2.toNat:Int)+256*(j3.toNat:Int)+(j4.toNat:Int)) u (fun u B h=>?_))),(fun u=>?_)⟩
    ·rw [hlist] at h
     exact arp_ok B h1 h2 h3 h4 h5 h6 o o' a b c d e f i1 i2 i3 i4 a' b' c' d' e' f' j1 j2 j3 j4 r u h hml hh ho
    ·rw [hsr]
     exact Rr.arp_ok h1 h2 h3 h4 h5 h6 o o' a b c d e f i1 i2 i3 i4 a' b' c' d' e' f' j1 j2 j3 j4 r u hr hh (by omega) (by omega)


end Go.Proofs.YtbhbbeebncmaiaaGreatDoor.RB.arp
namespace Go.Proofs.YtbhbbeebncmaiaaGreatDoor.RB
open Go.ChangeShapes Go.WideShapes Go.ChangeAt Go.RowKit Bs Rd
set_option linter.unusedVariables false
theorem w4_le (l:List UInt8) (i:Nat):0≤IpK.w4 l i∧IpK.w4 l i≤4294967295:=by
 have hb:∀ j,0≤IpK.bt l j∧IpK.bt l j≤255:=fun j=>by
  unfold IpK.bt
  have:=(l.getD j 0).toNat_lt
  omega
 unfold IpK.w4
 have:=hb i; have:=hb (i+1); have:=hb (i+2); have:=hb (i+3)
 omega
theorem ip_both (s:ByteArray) (hm:s.size≤262144):∃ id ttl pr fr ta ld k,(∀ u,Calls Tryz.prog 173 #[.string s] u fun e w'=>e=.returned (.tuple #[.agg #[.int .u16 id,.int .u8 ttl,.int .u8 pr,.int .u32 fr,.int .u32 ta,.string ld],.int .i64 k])∧Below u.heap.size u w')∧(∀ u,Calls Tryz.prog 68 #[.string s] u fun e w'=>e=.returned (.tuple #[.agg #[.int .u16 id,.int .u8 ttl,.int .u8 pr,.int .u32 fr,.int .u32 ta,.string ld],.int .i64 k])∧Below u.heap.size u w')∧(0≤fr∧fr≤4294967295)∧(0≤ta∧ta≤4294967295)∧ld.size≤s.size:=by
 refine ⟨_,_,_,_,_,_,_,fun u=>IpW.code_any s _ rfl u hm,fun u=>IpQ.ref_any s _ rfl u hm,?_,?_,?_⟩
 ·unfold IpK.ipF; split
  ·exact w4_le _ _
  ·omega
 ·unfold IpK.ipF; split
  ·exact w4_le _ _
  ·omega
 ·unfold IpK.ipLd; split
  ·show (((s.data.toList.drop 20).take _).toArray).size≤s.data.size
   simp; omega
  ·exact Nat.zero_le _
theorem udp_both (s:ByteArray) (fr ta:Int) (hm:s.size≤262144) (hf:0≤fr∧fr≤4294967295) (ho:0≤ta∧ta≤4294967295):∃ f t ld k,(∀ u,Calls Tryz.prog 174 #[.string s,.int .u32 fr,.int .u32 ta] u fun e w'=>e=.returned (.tuple #[.agg #[.int .u16 f,.int .u16 t,.string ld],.int .i64 k])∧Below u.heap.size u w')∧(∀ u,Calls Tryz.prog 69 #[.string s,.int .u32 fr,.int .u32 ta] u fun e w'=>e=.returned (.tuple #[.agg #[.int .u16 f,.int .u16 t,.string ld],.int .i64 k])∧Below u.heap.size u w')∧ld.size≤s.size:=by
 refine ⟨_,_,_,_,fun u=>UdW.code_any s _ rfl fr ta u hm hf ho,fun u=>UdQ.ref_any s _ rfl fr ta u hm hf ho,?_⟩
 unfold UdK.udLd; split
 ·show (((s.data.toList.drop 8).take _).toArray).size≤s.data.size
  simp; omega
 ·exact Nat.zero_le _
end Go.Proofs.YtbhbbeebncmaiaaGreatDoor.RB
namespace Go.Proofs.YtbhbbeebncmaiaaGreatDoor.RB.dh
open Go.ChangeShapes Go.WideShapes Go.ChangeAt Go.RowKit Bs Rd Dh
set_option linter.unusedVariables false
theorem cons_of {n:Nat} (l:List UInt8) (h:n+1≤l.length):∃ a r,l=a::r∧n≤r.length:=by
 match l,h with
 | a::r,h=>exact ⟨a,r,rfl,by simpa using h⟩

theorem cut_of (n k:Nat) (l:List UInt8) (h:n+k≤l.length):∃ (s:ByteArray) (r:List UInt8),l=s.data.toList++r∧s.size=n∧k≤r.length:=by
 refine ⟨⟨(l.take n).toArray⟩,l.drop n,(List.take_append_drop n l).symm,?_,?_⟩
 ·show (l.take n).toArray.size=n
  simp; omega
 ·rw [List.length_drop]; omega

theorem optL_heavy (m host file:List UInt8):heavy (optL m host file)≤m.length+host.length+file.length:=by
 have hq0:heavy ([]:List Pc)=0:=rfl
 have hle:∀ l:List Pc,l.length≤heavy l:=fun l=>by unfold heavy; omega
 unfold optL
 cases hp:pieces m with
 | none=>simp [hq0]
 | some ps =>
  have h1:=heavy_pieces _ m ps (Nat.le_refl _) hp
  simp only
  split
  ·unfold moreP
   have hf:∀ (b:Bool) (x:List UInt8) (r:List Pc),(if b then pieces x else some [])=some r→heavy r≤x.length:=fun b x r h=>by
    cases b
    ·simp at h; subst h; omega
    ·exact heavy_pieces _ x r (Nat.le_refl _) (by simpa using h)
   cases ha:(if inF (data ps 52) then pieces file else some []) with
   | none=>simp [hq0]
   | some a =>
    cases hb:(if inH (data ps 52) then pieces host else some []) with
    | none=>simp [hq0]
    | some b =>
     simp only [Option.bind_some]
     have q:=heavy_addAll (drop ps 52++(a++b)) []
     rw [heavy_append,heavy_append] at q
     have q1:=heavy_drop 52 ps
     have q2:=hf _ _ _ ha
     have q3:=hf _ _ _ hb
     omega
  ·have q:=heavy_addAll ps []
   omega

theorem code_no (s:ByteArray) (k:Int) (hR:∀ u B,Rdr u B s.data.toList→Calls Tryz.prog 252 #[.pointer (some ⟨B,0,none⟩)] u fun ee w'=>ee=.panicked (errP k)∧u.grownBy w' (some B)) (u:World) :
  Calls Tryz.prog 213 #[.string s] u fun ee w'=>ee=.returned (.tuple #[.agg #[.bool false,.int .u32 0,.int .u32 0,.int .u32 0,.int .u32 0,.int .u8 0,.int .u8 0,.int .u8 0,.int .u8 0,.int .u8 0,.int .u8 0,.slice none 0 0],.int .i64 k])∧Below u.heap.size u w' :=
 DhR.wire_of_no s k u (fun u=>DhR.read_no s k u (fun u' B hr _=>hR u' B hr))

def No (s:ByteArray):Prop:=∃ k:Int,k≠0∧(∀ u,Calls Tryz.prog 213 #[.string s] u fun e w'=>e=.returned (.tuple #[.agg #[.bool false,.int .u32 0,.int .u32 0,.int .u32 0,.int .u32 0,.int .u8 0,.int .u8 0,.int .u8 0,.int .u8 0,.int .u8 0,.int .u8 0,.slice none 0 0],.int .i64 k])∧Below u.heap.size u w')∧(∀ u,Calls Tryz.prog 70 #[.string s] u fun e w'=>e=.returned (.tuple #[.agg #[.bool false,.int .u32 0,.int .u32 0,.int .u32 0,.int .u32 0,.int .u8 0,.int .u8 0,.int .u8 0,.int .u8 0,.int .u8 0,.int .u8 0,.slice none 0 0],.int .i64 k])∧Below u.heap.size u w')
def Yes (s:ByteArray):Prop:=∃ rep xid cl yo ne d0 d1 d2 d3 d4 d5,∃ os:Dh.Opts,Dh.heavy os≤268435456∧(∀ u,Calls Tryz.prog 213 #[.string s] u fun ee w'=>DhR.OutP os.length (Dh.cellsO os) u (fun sa sc=>.tuple #[.agg #[.bool rep,.int .u32 xid,.int .u32 cl,.int .u32 yo,.int .u32 ne,.int .u8 d0,.int .u8 d1,.int .u8 d2,.int .u8 d3,.int .u8 d4,.int .u8 d5,.slice sa os.length sc],.int .i64 0]) ee w')∧(∀ u,Calls Tryz.prog 70 #[.string s] u fun ee w'=>Below u.heap.size u w'∧∃ v,ee=.returned (.tuple #[.agg #[.bool rep,.int .u32 xid,.int .u32 cl,.int .u32 yo,.int .u32 ne,.int .u8 d0,.int .u8 d1,.int .u8 d2,.int .u8 d3,.int .u8 d4,.int .u8 d5,v],.int .i64 0])∧Dh.Has (u.heap.size+2) w' v os)

set_option maxHeartbeats 2000000 in
theorem dhcp_long (s:ByteArray) (hm:s.size≤262144) (h240:240≤s.size):No s∨Yes s:=by
 have hl0:239+1≤s.data.toList.length:=by rw [Array.length_toList]; exact h240
 obtain ⟨l0,hl⟩:∃ l,l=s.data.toList:=⟨_,rfl⟩
 rw [← hl] at hl0
 obtain ⟨a0,l1,q0,y100⟩:=cons_of (n:=239) l0 hl0
 obtain ⟨a1,l2,q1,y101⟩:=cons_of (n:=238) l1 y100
 obtain ⟨a2,l3,q2,y102⟩:=cons_of (n:=237) l2 y101
 obtain ⟨a3,l4,q3,y103⟩:=cons_of (n:=236) l3 y102
 obtain ⟨a4,l5,q4,y104⟩:=cons_of (n:=235) l4 y103
 obtain ⟨a5,l6,q5,y105⟩:=cons_of (n:=234) l5 y104
 obtain ⟨a6,l7,q6,y106⟩:=cons_of (n:=233) l6 y105
 obtain ⟨a7,l8,q7,y107⟩:=cons_of (n:=232) l7 y106
 obtain ⟨a8,l9,q8,y108⟩:=cons_of (n:=231) l8 y107
 obtain ⟨a9,l10,q9,y109⟩:=cons_of (n:=230) l9 y108
 obtain ⟨a10,l11,q10,y110⟩:=cons_of (n:=229) l10 y109
 obtain ⟨a11,l12,q11,y111⟩:=cons_of (n:=228) l11 y110
 obtain ⟨a12,l13,q12,y112⟩:=cons_of (n:=227) l12 y111
 obtain ⟨a13,l14,q13,y113⟩:=cons_of (n:=226) l13 y112
 obtain ⟨a14,l15,q14,y114⟩:=cons_of (n:=225) l14 y113
 obtain ⟨a15,l16,q15,y115⟩:=cons_of (n:=224) l15 y114
 obtain ⟨a16,l17,q16,y116⟩:=cons_of (n:=223) l16 y115
 obtain ⟨a17,l18,q17,y117⟩:=cons_of (n:=222) l17 y116
 obtain ⟨a18,l19,q18,y118⟩:=cons_of (n:=221) l18 y117
 obtain ⟨a19,l20,q19,y119⟩:=cons_of (n:=220) l19 y118
 obtain ⟨a20,l21,q20,y120⟩:=cons_of (n:=219) l20 y119
 obtain ⟨a21,l22,q21,y121⟩:=cons_of (n:=218) l21 y120
 obtain ⟨a22,l23,q22,y122⟩:=cons_of (n:=217) l22 y121
 obtain ⟨a23,l24,q23,y123⟩:=cons_of (n:=216) l23 y122
 obtain ⟨a24,l25,q24,y124⟩:=cons_of (n:=215) l24 y123
 obtain ⟨a25,l26,q25,y125⟩:=cons_of (n:=214) l25 y124
 obtain ⟨a26,l27,q26,y126⟩:=cons_of (n:=213) l26 y125
 obtain ⟨a27,l28,q27,y127⟩:=cons_of (n:=212) l27 y126
 obtain ⟨a28,l29,q28,y128⟩:=cons_of (n:=211) l28 y127
 obtain ⟨a29,l30,q29,y129⟩:=cons_of (n:=210) l29 y128
 obtain ⟨a30,l31,q30,y130⟩:=cons_of (n:=209) l30 y129
 obtain ⟨a31,l32,q31,y131⟩:=cons_of (n:=208) l31 y130
 obtain ⟨a32,l33,q32,y132⟩:=cons_of (n:=207) l32 y131
 obtain ⟨a33,l34,q33,y133⟩:=cons_of (n:=206) l33 y132
 rw [q0,q1,q2,q3,q4,q5,q6,q7,q8,q9,q10,q11,q12,q13,q14,q15,q16,q17,q18,q19,q20,q21,q22,q23,q24,q25,q26,q27,q28,q29,q30,q31,q32,q33] at hl
 obtain ⟨m,hmm⟩:∃ m,m=l34:=⟨_,rfl⟩
 rw [← hmm] at hl y133
 obtain ⟨s1,m1,e1,z1,y1⟩:=cut_of 10 196 m (by omega)
 obtain ⟨sh,m2,e2,z2,y2⟩:=cut_of 64 132 m1 (by omega)
 obtain ⟨sf,m3,e3,z3,y3⟩:=cut_of 128 4 m2 (by omega)
 obtain ⟨sc,m4,e4,z4,y4⟩:=cut_of 4 0 m3 (by omega)
 have hS:s.data.toList=a0::a1::a2::a3::a4::a5::a6::a7::a8::a9::a10::a11::a12::a13::a14::a15::a16::a17::a18::a19::a20::a21::a22::a23::a24::a25::a26::a27::a28::a29::a30::a31::a32::a33::m:=hl.symm
 obtain ⟨hz,x13,x48,x1216,x1620,x2024,x28,x44,x108,x236,x240⟩:=parts a0 a1 a2 a3 a4 a5 a6 a7 a8 a9 a10 a11 a12 a13 a14 a15 a16 a17 a18 a19 a20 a21 a22 a23 a24 a25 a26 a27 a28 a29 a30 a31 a32 a33 m m1 m2 m3 m4 s s1 sh sf sc hS e1 e2 e3 e4 z1 z2 z3 z4
 have i0:∀ u,(Instr.index 9 (.string s) (.int .i64 0)).run Tryz.prog u=.ok (.int .u8 a0.toNat) u:=fun u=>idx_str s 0 a0 (by omega) (by rw [hS]; rfl) 0 rfl u
 have hlen:(a0::a1::a2::a3::a4::a5::a6::a7::a8::a9::a10::a11::a12::a13::a14::a15::a16::a17::a18::a19::a20::a21::a22::a23::a24::a25::a26::a27::a28::a29::a30::a31::a32::a33::m).length≤1048576:=by rw [← hS,Array.length_toList]; show s.size≤_; omega
 have hm4:m4.length≤1048000:=by omega
 cases hop:((a0.toNat:Int)==1 || (a0.toNat:Int)==2) with
 | false =>
  exact Or.inl ⟨2,by decide,(code_no s 2 (fun u B hr=>dhcp_op B a0 a1 a2 a3 a4 a5 a6 a7 a8 a9 a10 a11 a12 a13 a14 a15 a16 a17 a18 a19 a20 a21 a22 a23 a24 a25 a26 a27 a28 a29 a30 a31 a32 a33 m m1 m2 m3 m4 s1 sh sf sc u (hS ▸ hr) hlen e1 e2 e3 e4 z1 z2 z3 z4 hop)),(fun u=>ref_head s a0 u h240 (by omega) i0 (Or.inl hop))⟩
 | true =>
  by_cases hcd:a1=1∧a2=6
  ·obtain ⟨h1,h2⟩:=hcd
   subst h1
   subst h2
   by_cases hck:sc.data.toList=[99,130,83,99]
   ·obtain ⟨rp,hrp⟩:∃ rp,((a0.toNat:Int)==2)=rp:=⟨_,rfl⟩
    have HC:=fun u B (hr:Rdr u B s.data.toList)=>dhcp_all B a0 a3 a4 a5 a6 a7 a8 a9 a10 a11 a12 a13 a14 a15 a16 a17 a18 a19 a20 a21 a22 a23 a24 a25 a26 a27 a28 a29 a30 a31 a32 a33 m m1 m2 m3 m4 s1 sh sf sc u (hS ▸ hr) hlen e1 e2 e3 e4 z1 z2 z3 z4 rp hop hrp hck
    have HR:∀ u:World,Calls Tryz.prog 70 #[.string s] u fun ee w'=>RefP (optK m4 sh.data.toList sf.data.toList) (optL m4 sh.data.toList sf.data.toList) (u.heap.size+2) u (fun v=>.agg #[.bool rp,.int .u32 (16777216*(a4.toNat:Int)+65536*(a5.toNat:Int)+256*(a6.toNat:Int)+(a7.toNat:Int)),.int .u32 (16777216*(a12.toNat:Int)+65536*(a13.toNat:Int)+256*(a14.toNat:Int)+(a15.toNat:Int)),.int .u32 (16777216*(a16.toNat:Int)+65536*(a17.toNat:Int)+256*(a18.toNat:Int)+(a19.toNat:Int)),.int .u32 (16777216*(a20.toNat:Int)+65536*(a21.toNat:Int)+256*(a22.toNat:Int)+(a23.toNat:Int)),.int .u8 a28.toNat,.int .u8 a29.toNat,.int .u8 a30.toNat,.int .u8 a31.toNat,.int .u8 a32.toNat,.int .u8 a33.toNat,v]) ee w':=fun u=>by
     cases hq1:((a0.toNat:Int) != 1) with
     | false=>exact ref_one a0 1 6 a3 a4 a5 a6 a7 a8 a9 a10 a11 a12 a13 a14 a15 a16 a17 a18 a19 a20 a21 a22 a23 a24 a25 a26 a27 a28 a29 a30 a31 a32 a33 m m1 m2 m3 m4 s s1 sh sf sc u hS hm4 e1 e2 e3 e4 z1 z2 z3 z4 rp _ rfl _ rfl _ rfl _ rfl hq1 hrp rfl rfl hck
     | true =>
      have hq2:((a0.toNat:Int) != 2)=false:=by
       rw [Bool.or_eq_true] at hop
       rcases hop with q | q
       ·rw [bne,q] at hq1; cases hq1
       ·rw [bne,q]; rfl
      exact ref_two a0 1 6 a3 a4 a5 a6 a7 a8 a9 a10 a11 a12 a13 a14 a15 a16 a17 a18 a19 a20 a21 a22 a23 a24 a25 a26 a27 a28 a29 a30 a31 a32 a33 m m1 m2 m3 m4 s s1 sh sf sc u hS hm4 e1 e2 e3 e4 z1 z2 z3 z4 rp _ rfl _ rfl _ rfl _ rfl hq1 hq2 hrp rfl rfl hck
    have hll:=optL_heavy m4 sh.data.toList sf.data.toList
    have hz5:sh.data.toList.length=64:=by rw [Array.length_toList]; exact z2
    have hz6:sf.data.toList.length=128:=by rw [Array.length_toList]; exact z3
    by_cases hk:optK m4 sh.data.toList sf.data.toList=0
    ·refine Or.inr ⟨rp,(16777216*(a4.toNat:Int)+65536*(a5.toNat:Int)+256*(a6.toNat:Int)+(a7.toNat:Int)),(16777216*(a12.toNat:Int)+65536*(a13.toNat:Int)+256*(a14.toNat:Int)+(a15.toNat:Int)),(16777216*(a16.toNat:Int)+65536*(a17.toNat:Int)+256*(a18.toNat:Int)+(a19.toNat:Int)),(16777216*(a20.toNat:Int)+65536*(a21.toNat:Int)+256*(a22.toNat:Int)+(a23.toNat:Int)),a28.toNat,a29.toNat,a30.toNat,a31.toNat,a32.toNat,a33.toNat,optL m4 sh.data.toList sf.data.toList,by omega,fun u=>?_,fun u=>?_⟩
     ·refine DhR.wire_of_ok s rp (16777216*(a4.toNat:Int)+65536*(a5.toNat:Int)+256*(a6.toNat:Int)+(a7.toNat:Int)) (16777216*(a12.toNat:Int)+65536*(a13.toNat:Int)+256*(a14.toNat:Int)+(a15.toNat:Int)) (16777216*(a16.toNat:Int)+65536*(a17.toNat:Int)+256*(a18.toNat:Int)+(a19.toNat:Int)) (16777216*(a20.toNat:Int)+65536*(a21.toNat:Int)+256*(a22.toNat:Int)+(a23.toNat:Int)) a28.toNat a29.toNat a30.toNat a31.toNat a32.toNat a33.toNat _ _ u (fun u=>DhR.read_ok s rp (16777216*(a4.toNat:Int)+65536*(a5.toNat:Int)+256*(a6.toNat:Int)+(a7.toNat:Int)) (16777216*(a12.toNat:Int)+65536*(a13.toNat:Int)+256*(a14.toNat:Int)+(a15.toNat:Int)) (16777216*(a16.toNat:Int)+65536*(a17.toNat:Int)+256*(a18.toNat:Int)+(a19.toNat:Int)) (16777216*(a20.toNat:Int)+65536*(a21.toNat:Int)+256*(a22.toNat:Int)+(a23.toNat:Int)) a28.toNat a29.toNat a30.toNat a31.toNat a32.toNat a33.toNat _ _ u (fun u' B hr _=>?_))
      refine (HC u' B hr).mono ?_
      rintro ee w' ⟨hg,hp⟩
      rw [if_pos hk] at hp
      exact ⟨hp,hg⟩
     ·refine (HR u).mono ?_
      rintro ee w' ⟨hb,hp⟩
      rw [if_pos hk] at hp
      exact ⟨hb,hp⟩
    ·refine Or.inl ⟨(optK m4 sh.data.toList sf.data.toList:Nat),by omega,code_no s _ (fun u B hr=>?_),fun u=>?_⟩
     ·refine (HC u B hr).mono ?_
      rintro ee w' ⟨hg,hp⟩
      rw [if_neg hk] at hp
      exact ⟨hp,hg⟩
     ·refine (HR u).mono ?_
      rintro ee w' ⟨hb,hp⟩
      rw [if_neg hk] at hp
      exact ⟨hp,hb⟩
   ·exact Or.inl ⟨2,by decide,(code_no s 2 (fun u B hr=>dhcp_cookie B a0 a3 a4 a5 a6 a7 a8 a9 a10 a11 a12 a13 a14 a15 a16 a17 a18 a19 a20 a21 a22 a23 a24 a25 a26 a27 a28 a29 a30 a31 a32 a33 m m1 m2 m3 m4 s1 sh sf sc u (hS ▸ hr) hlen e1 e2 e3 e4 z1 z2 z3 z4 _ hop rfl hck)),(fun u=>ref_head s a0 u h240 (by omega) i0 (Or.inr ⟨hop,Or.inr ⟨by rw [x13,ByteArray.toList_eq]; rfl,by rw [x236,ByteArray.toList_eq]; simpa using hck⟩⟩))⟩
  ·exact Or.inl ⟨2,by decide,(code_no s 2 (fun u B hr=>dhcp_card B a0 a1 a2 a3 a4 a5 a6 a7 a8 a9 a10 a11 a12 a13 a14 a15 a16 a17 a18 a19 a20 a21 a22 a23 a24 a25 a26 a27 a28 a29 a30 a31 a32 a33 m m1 m2 m3 m4 s1 sh sf sc u (hS ▸ hr) hlen e1 e2 e3 e4 z1 z2 z3 z4 _ hop rfl hcd)),(fun u=>ref_head s a0 u h240 (by omega) i0 (Or.inr ⟨hop,Or.inl (by rw [x13,ByteArray.toList_eq]; simpa using hcd)⟩))⟩


theorem dhcp_both (s:ByteArray) (hm:s.size≤262144):No s∨Yes s:=by
 by_cases h240:s.size<240
 ·exact Or.inl ⟨1,by decide,code_no s 1 (fun u B hr=>dhcp_short B _ u hr (by rw [Array.length_toList]; exact h240)),fun u=>ref_short s u h240⟩
 ·exact dhcp_long s hm (by omega)
end Go.Proofs.YtbhbbeebncmaiaaGreatDoor.RB.dh
namespace Go.Proofs.YtbhbbeebncmaiaaGreatDoor.Ref
open Go.ChangeShapes Go.WideShapes Go.ChangeAt Go.RowKit Bs Mac
set_option linter.unusedVariables false
set_option linter.unusedSimpArgs false
variable {w0 : World} {P : Nat → Prop} {w w' : World} {G : Nat} {r r' : Rf}
def ActR (f:Nat) (args:Array Value) (G:Nat) (r r':Rf):Prop:=∀ (w0:World) (P:Nat→Prop) (u:World),Rm w0 P u G r→Calls Tryz.prog f args u fun ee w'=>ee=.returned (.tuple #[])∧Rm w0 P w' G r'
def toMeR (r:Rf) (a0 a1 a2 a3 a4 a5:Int):Bool:=(a0==(r.k0.toNat:Int)&&a1==(r.k1.toNat:Int)&&a2==(r.k2.toNat:Int)&&a3==(r.k3.toNat:Int)&&a4==(r.k4.toNat:Int)&&a5==(r.k5.toNat:Int)) || (a0==255&&a1==255&&a2==255&&a3==255&&a4==255&&a5==255)
theorem row3 {u:World} {g:Nat} {t:TypeId} {b0 b1 b2:Value} (h:u.heap[g]?=some (.cells #[b0,b1,b2] t (0,0))) :
  u.cell? ⟨g,0,none⟩=some b0∧u.cell? ⟨g,1,none⟩=some b1∧u.cell? ⟨g,2,none⟩=some b2:=by
 have q:=fun j=>cell_of_row u g j _ _ _ h
 exact ⟨q 0,q 1,q 2⟩

set_option maxHeartbeats 4000000 in
set_option maxRecDepth 10000 in
theorem frame_err (h:Rm w0 P w G r) (s:ByteArray) (a0 a1 a2 a3 a4 a5 a6 a7 a8 a9 a10 a11 ty:Int) (ld:ByteArray) (k:Int) (hE:∀ u,Calls Tryz.prog 65 #[.string s] u fun e w'=>e=.returned (.tuple #[.agg #[.int .u8 a0,.int .u8 a1,.int .u8 a2,.int .u8 a3,.int .u8 a4,.int .u8 a5,.int .u8 a6,.int .u8 a7,.int .u8 a8,.int .u8 a9,.int .u8 a10,.int .u8 a11,.int .u16 ty,.string ld],.int .i64 k])∧Below u.heap.size u w') (hk:k≠0) :
  Calls Tryz.prog 44 #[.pointer (some ⟨G,0,none⟩),.string s] w fun ee w'=>ee=.returned (.tuple #[])∧Rm w0 P w' G r:=by
 have HR:=hide (hE w)
 have HM:=hide h
 have hkk:(k != 0)=true:=by simpa using hk
 clear hE h hk
 go_enter Tryz.func44,Tryz.ntmps44
 go_wp2_with fail
 refine (unhide HR).mono ?_
 rintro ee u1 ⟨rfl,hb1⟩
 have HM1:=hide (((unhide HM).below hb1).alloc (.cells #[.int .u8 a0,.int .u8 a1,.int .u8 a2,.int .u8 a3,.int .u8 a4,.int .u8 a5,.int .u8 a6,.int .u8 a7,.int .u8 a8,.int .u8 a9,.int .u8 a10,.int .u8 a11,.int .u16 ty,.string ld] 111))
 clear hb1 HR HM
 go_wp2
 go_quiet (fail)
 go_wp2
 go_returns
 exact ⟨rfl,(unhide HM1).like ⟨rfl,rfl,rfl,rfl⟩⟩

set_option maxHeartbeats 4000000 in
set_option maxRecDepth 10000 in
theorem frame_other (h:Rm w0 P w G r) (s:ByteArray) (a0 a1 a2 a3 a4 a5 a6 a7 a8 a9 a10 a11 ty:Int) (ld:ByteArray) (k:Int) (hE:∀ u,Calls Tryz.prog 65 #[.string s] u fun e w'=>e=.returned (.tuple #[.agg #[.int .u8 a0,.int .u8 a1,.int .u8 a2,.int .u8 a3,.int .u8 a4,.int .u8 a5,.int .u8 a6,.int .u8 a7,.int .u8 a8,.int .u8 a9,.int .u8 a10,.int .u8 a11,.int .u16 ty,.string ld],.int .i64 k])∧Below u.heap.size u w') (hk:k=0) (hT:toMeR r a0 a1 a2 a3 a4 a5=false) :
  Calls Tryz.prog 44 #[.pointer (some ⟨G,0,none⟩),.string s] w fun ee w'=>ee=.returned (.tuple #[])∧Rm w0 P w' G r:=by
 subst hk
 have HR:=hide (hE w)
 have HM:=hide h
 have hq1:=fun u=>mac_eq a0 a1 a2 a3 a4 a5 r.k0.toNat r.k1.toNat r.k2.toNat r.k3.toNat r.k4.toNat r.k5.toNat u
 have hq2:=fun u=>mac_eq a0 a1 a2 a3 a4 a5 255 255 255 255 255 255 u
 unfold toMeR at hT
 generalize (a0==(r.k0.toNat:Int)&&a1==(r.k1.toNat:Int)&&a2==(r.k2.toNat:Int)&&a3==(r.k3.toNat:Int)&&a4==(r.k4.toNat:Int)&&a5==(r.k5.toNat:Int))=b1 at hq1 hT
 generalize (a0==255&&a1==255&&a2==255&&a3==255&&a4==255&&a5==255)=b2 at hq2 hT
 clear hE h
 go_enter Tryz.func44,Tryz.ntmps44
 go_wp2_with fail
 refine (unhide HR).mono ?_
 rintro ee u1 ⟨rfl,hb1⟩
 have HM1:=hide (((unhide HM).below hb1).alloc (.cells #[.int .u8 a0,.int .u8 a1,.int .u8 a2,.int .u8 a3,.int .u8 a4,.int .u8 a5,.int .u8 a6,.int .u8 a7,.int .u8 a8,.int .u8 a9,.int .u8 a10,.int .u8 a11,.int .u16 ty,.string ld] 111))
 have HR1:Hid ((u1.alloc (.cells #[.int .u8 a0,.int .u8 a1,.int .u8 a2,.int .u8 a3,.int .u8 a4,.int .u8 a5,.int .u8 a6,.int .u8 a7,.int .u8 a8,.int .u8 a9,.int .u8 a10,.int .u8 a11,.int .u16 ty,.string ld] 111)).heap[u1.heap.size]?=some (.cells #[.int .u8 a0,.int .u8 a1,.int .u8 a2,.int .u8 a3,.int .u8 a4,.int .u8 a5,.int .u8 a6,.int .u8 a7,.int .u8 a8,.int .u8 a9,.int .u8 a10,.int .u8 a11,.int .u16 ty,.string ld] 111 (0,0))):=hide (heap_alloc_new u1 _)
 clear hb1 HR HM
 obtain ⟨v,hv⟩:∃ v,v=u1.alloc (.cells #[.int .u8 a0,.int .u8 a1,.int .u8 a2,.int .u8 a3,.int .u8 a4,.int .u8 a5,.int .u8 a6,.int .u8 a7,.int .u8 a8,.int .u8 a9,.int .u8 a10,.int .u8 a11,.int .u16 ty,.string ld] 111):=⟨_,rfl⟩
 rw [← hv] at HM1 HR1
 have HV:=hide hv
 clear hv
 cases b1 with
 | true=>cases hT
 | false =>
  cases b2 with
  | true=>cases hT
  | false =>
   clear hT
   go_wp2
   rw [← unhide HV]
   have c1:=(unhide HM1).c1
   have c2:=(unhide HM1).c2
   have c3:=(unhide HM1).c3
   have c4:=(unhide HM1).c4
   have c5:=(unhide HM1).c5
   have c6:=(unhide HM1).c6
   obtain ⟨g0,g1,g2,g3,g4,g5⟩:=(unhide HM1).all6
   obtain ⟨x0,x1,x2,x3,x4,x5,x6,x7,x8,x9,x10,x11,x12,x13⟩:=row14 (unhide HR1)
   go_quiet (fail)
   obtain ⟨v2,hv2⟩:∃ v2,v2=v.drewN nq:=⟨_,rfl⟩
   have HM2:Hid (Rm w0 P v2 G r):=hide (by rw [hv2]; exact (unhide HM1).like ⟨rfl,rfl,rfl,rfl⟩)
   have HR2:Hid (v2.heap[u1.heap.size]?=some (.cells #[.int .u8 a0,.int .u8 a1,.int .u8 a2,.int .u8 a3,.int .u8 a4,.int .u8 a5,.int .u8 a6,.int .u8 a7,.int .u8 a8,.int .u8 a9,.int .u8 a10,.int .u8 a11,.int .u16 ty,.string ld] 111 (0,0))):=hide (by rw [hv2]; exact unhide HR1)
   rw [← hv2]
   clear hv2 HM1 HR1 HV c1 c2 c3 c4 c5 c6 g0 g1 g2 g3 g4 g5 hq1 hq2 x0 x1 x2 x3 x4 x5 x6 x7 x8 x9 x10 x11 x12 x13
   obtain ⟨x0,x1,x2,x3,x4,x5,x6,x7,x8,x9,x10,x11,x12,x13⟩:=row14 (unhide HR2)
   clear x0 x1 x2 x3 x4 x5 x6 x7 x8 x9 x10 x11
   go_wp2
   go_returns
   exact ⟨rfl,unhide HM2⟩

set_option maxHeartbeats 4000000 in
set_option maxRecDepth 10000 in
theorem frame_else (h:Rm w0 P w G r) (s:ByteArray) (a0 a1 a2 a3 a4 a5 a6 a7 a8 a9 a10 a11 ty:Int) (ld:ByteArray) (k:Int) (hE:∀ u,Calls Tryz.prog 65 #[.string s] u fun e w'=>e=.returned (.tuple #[.agg #[.int .u8 a0,.int .u8 a1,.int .u8 a2,.int .u8 a3,.int .u8 a4,.int .u8 a5,.int .u8 a6,.int .u8 a7,.int .u8 a8,.int .u8 a9,.int .u8 a10,.int .u8 a11,.int .u16 ty,.string ld],.int .i64 k])∧Below u.heap.size u w') (hk:k=0) (hT:toMeR r a0 a1 a2 a3 a4 a5=true) (h1:ty≠2054) (h2:ty≠2048) :
  Calls Tryz.prog 44 #[.pointer (some ⟨G,0,none⟩),.string s] w fun ee w'=>ee=.returned (.tuple #[])∧Rm w0 P w' G r:=by
 subst hk
 have e1:(ty==2054)=false:=by simpa using h1
 have e2:(ty != 2048)=true:=by simpa using h2
 have HR:=hide (hE w)
 have HM:=hide h
 have hq1:=fun u=>mac_eq a0 a1 a2 a3 a4 a5 r.k0.toNat r.k1.toNat r.k2.toNat r.k3.toNat r.k4.toNat r.k5.toNat u
 have hq2:=fun u=>mac_eq a0 a1 a2 a3 a4 a5 255 255 255 255 255 255 u
 unfold toMeR at hT
 generalize (a0==(r.k0.toNat:Int)&&a1==(r.k1.toNat:Int)&&a2==(r.k2.toNat:Int)&&a3==(r.k3.toNat:Int)&&a4==(r.k4.toNat:Int)&&a5==(r.k5.toNat:Int))=b1 at hq1 hT
 generalize (a0==255&&a1==255&&a2==255&&a3==255&&a4==255&&a5==255)=b2 at hq2 hT
 clear hE h
 go_enter Tryz.func44,Tryz.ntmps44
 go_wp2_with fail
 refine (unhide HR).mono ?_
 rintro ee u1 ⟨rfl,hb1⟩
 have HM1:=hide (((unhide HM).below hb1).alloc (.cells #[.int .u8 a0,.int .u8 a1,.int .u8 a2,.int .u8 a3,.int .u8 a4,.int .u8 a5,.int .u8 a6,.int .u8 a7,.int .u8 a8,.int .u8 a9,.int .u8 a10,.int .u8 a11,.int .u16 ty,.string ld] 111))
 have HR1:Hid ((u1.alloc (.cells #[.int .u8 a0,.int .u8 a1,.int .u8 a2,.int .u8 a3,.int .u8 a4,.int .u8 a5,.int .u8 a6,.int .u8 a7,.int .u8 a8,.int .u8 a9,.int .u8 a10,.int .u8 a11,.int .u16 ty,.string ld] 111)).heap[u1.heap.size]?=some (.cells #[.int .u8 a0,.int .u8 a1,.int .u8 a2,.int .u8 a3,.int .u8 a4,.int .u8 a5,.int .u8 a6,.int .u8 a7,.int .u8 a8,.int .u8 a9,.int .u8 a10,.int .u8 a11,.int .u16 ty,.string ld] 111 (0,0))):=hide (heap_alloc_new u1 _)
 clear hb1 HR HM
 obtain ⟨v,hv⟩:∃ v,v=u1.alloc (.cells #[.int .u8 a0,.int .u8 a1,.int .u8 a2,.int .u8 a3,.int .u8 a4,.int .u8 a5,.int .u8 a6,.int .u8 a7,.int .u8 a8,.int .u8 a9,.int .u8 a10,.int .u8 a11,.int .u16 ty,.string ld] 111):=⟨_,rfl⟩
 rw [← hv] at HM1 HR1
 have HV:=hide hv
 clear hv
 have hb:b1=true∨(b1=false∧b2=true):=by cases b1 <;> simp_all
 clear hT
 rcases hb with rfl | ⟨rfl,rfl⟩
 all_goals
  go_wp2
  rw [← unhide HV]
  have c1:=(unhide HM1).c1
  have c2:=(unhide HM1).c2
  have c3:=(unhide HM1).c3
  have c4:=(unhide HM1).c4
  have c5:=(unhide HM1).c5
  have c6:=(unhide HM1).c6
  obtain ⟨g0,g1,g2,g3,g4,g5⟩:=(unhide HM1).all6
  obtain ⟨x0,x1,x2,x3,x4,x5,x6,x7,x8,x9,x10,x11,x12,x13⟩:=row14 (unhide HR1)
  go_quiet (fail)
  obtain ⟨v2,hv2⟩:∃ v2,v2=v.drewN nq:=⟨_,rfl⟩
  have HM2:Hid (Rm w0 P v2 G r):=hide (by rw [hv2]; exact (unhide HM1).like ⟨rfl,rfl,rfl,rfl⟩)
  have HR2:Hid (v2.heap[u1.heap.size]?=some (.cells #[.int .u8 a0,.int .u8 a1,.int .u8 a2,.int .u8 a3,.int .u8 a4,.int .u8 a5,.int .u8 a6,.int .u8 a7,.int .u8 a8,.int .u8 a9,.int .u8 a10,.int .u8 a11,.int .u16 ty,.string ld] 111 (0,0))):=hide (by rw [hv2]; exact unhide HR1)
  rw [← hv2]
  clear hv2 HM1 HR1 HV c1 c2 c3 c4 c5 c6 g0 g1 g2 g3 g4 g5 hq1 hq2 x0 x1 x2 x3 x4 x5 x6 x7 x8 x9 x10 x11 x12 x13
  obtain ⟨x0,x1,x2,x3,x4,x5,x6,x7,x8,x9,x10,x11,x12,x13⟩:=row14 (unhide HR2)
  clear x0 x1 x2 x3 x4 x5 x6 x7 x8 x9 x10 x11
  go_wp2
  go_returns
  exact ⟨rfl,unhide HM2⟩
set_option maxHeartbeats 4000000 in
set_option maxRecDepth 10000 in
theorem frame_arp_no (h:Rm w0 P w G r) (s:ByteArray) (a0 a1 a2 a3 a4 a5 a6 a7 a8 a9 a10 a11 ty:Int) (ld:ByteArray) (k:Int) (op f0 f1 f2 f3 f4 f5 fip t0 t1 t2 t3 t4 t5 tip kA:Int) (hA:∀ u,Calls Tryz.prog 66 #[.string ld] u fun e w'=>e=.returned (.tuple #[.agg #[.int .u16 op,.int .u8 f0,.int .u8 f1,.int .u8 f2,.int .u8 f3,.int .u8 f4,.int .u8 f5,.int .u32 fip,.int .u8 t0,.int .u8 t1,.int .u8 t2,.int .u8 t3,.int .u8 t4,.int .u8 t5,.int .u32 tip],.int .i64 kA])∧Below u.heap.size u w') (hE:∀ u,Calls Tryz.prog 65 #[.string s] u fun e w'=>e=.returned (.tuple #[.agg #[.int .u8 a0,.int .u8 a1,.int .u8 a2,.int .u8 a3,.int .u8 a4,.int .u8 a5,.int .u8 a6,.int .u8 a7,.int .u8 a8,.int .u8 a9,.int .u8 a10,.int .u8 a11,.int .u16 ty,.string ld],.int .i64 k])∧Below u.heap.size u w') (hk:k=0) (hT:toMeR r a0 a1 a2 a3 a4 a5=true) (hty:ty=2054) (hkA:kA≠0) :
  Calls Tryz.prog 44 #[.pointer (some ⟨G,0,none⟩),.string s] w fun ee w'=>ee=.returned (.tuple #[])∧Rm w0 P w' G r:=by
 subst hk
 have e1:(ty==2054)=true:=by simpa using hty
 have e2:(ty != 2048)=true:=by rw [hty]; rfl
 clear hty
 have eA:(kA==0)=false:=by simpa using hkA
 clear hkA
 have HR:=hide (hE w)
 have HM:=hide h
 have hq1:=fun u=>mac_eq a0 a1 a2 a3 a4 a5 r.k0.toNat r.k1.toNat r.k2.toNat r.k3.toNat r.k4.toNat r.k5.toNat u
 have hq2:=fun u=>mac_eq a0 a1 a2 a3 a4 a5 255 255 255 255 255 255 u
 unfold toMeR at hT
 generalize (a0==(r.k0.toNat:Int)&&a1==(r.k1.toNat:Int)&&a2==(r.k2.toNat:Int)&&a3==(r.k3.toNat:Int)&&a4==(r.k4.toNat:Int)&&a5==(r.k5.toNat:Int))=b1 at hq1 hT
 generalize (a0==255&&a1==255&&a2==255&&a3==255&&a4==255&&a5==255)=b2 at hq2 hT
 clear hE h
 go_enter Tryz.func44,Tryz.ntmps44
 go_wp2_with fail
 refine (unhide HR).mono ?_
 rintro ee u1 ⟨rfl,hb1⟩
 have HM1:=hide (((unhide HM).below hb1).alloc (.cells #[.int .u8 a0,.int .u8 a1,.int .u8 a2,.int .u8 a3,.int .u8 a4,.int .u8 a5,.int .u8 a6,.int .u8 a7,.int .u8 a8,.int .u8 a9,.int .u8 a10,.int .u8 a11,.int .u16 ty,.string ld] 111))
 have HR1:Hid ((u1.alloc (.cells #[.int .u8 a0,.int .u8 a1,.int .u8 a2,.int .u8 a3,.int .u8 a4,.int .u8 a5,.int .u8 a6,.int .u8 a7,.int .u8 a8,.int .u8 a9,.int .u8 a10,.int .u8 a11,.int .u16 ty,.string ld] 111)).heap[u1.heap.size]?=some (.cells #[.int .u8 a0,.int .u8 a1,.int .u8 a2,.int .u8 a3,.int .u8 a4,.int .u8 a5,.int .u8 a6,.int .u8 a7,.int .u8 a8,.int .u8 a9,.int .u8 a10,.int .u8 a11,.int .u16 ty,.string ld] 111 (0,0))):=hide (heap_alloc_new u1 _)
 clear hb1 HR HM
 obtain ⟨v,hv⟩:∃ v,v=u1.alloc (.cells #[.int .u8 a0,.int .u8 a1,.int .u8 a2,.int .u8 a3,.int .u8 a4,.int .u8 a5,.int .u8 a6,.int .u8 a7,.int .u8 a8,.int .u8 a9,.int .u8 a10,.int .u8 a11,.int .u16 ty,.string ld] 111):=⟨_,rfl⟩
 rw [← hv] at HM1 HR1
 have HV:=hide hv
 clear hv
 have hb:b1=true∨(b1=false∧b2=true):=by cases b1 <;> simp_all
 clear hT
 rcases hb with rfl | ⟨rfl,rfl⟩
 all_goals
  go_wp2
  rw [← unhide HV]
  have c1:=(unhide HM1).c1
  have c2:=(unhide HM1).c2
  have c3:=(unhide HM1).c3
  have c4:=(unhide HM1).c4
  have c5:=(unhide HM1).c5
  have c6:=(unhide HM1).c6
  obtain ⟨g0,g1,g2,g3,g4,g5⟩:=(unhide HM1).all6
  obtain ⟨x0,x1,x2,x3,x4,x5,x6,x7,x8,x9,x10,x11,x12,x13⟩:=row14 (unhide HR1)
  go_quiet (fail)
  obtain ⟨v2,hv2⟩:∃ v2,v2=v.drewN nq:=⟨_,rfl⟩
  have HM2:Hid (Rm w0 P v2 G r):=hide (by rw [hv2]; exact (unhide HM1).like ⟨rfl,rfl,rfl,rfl⟩)
  have HR2:Hid (v2.heap[u1.heap.size]?=some (.cells #[.int .u8 a0,.int .u8 a1,.int .u8 a2,.int .u8 a3,.int .u8 a4,.int .u8 a5,.int .u8 a6,.int .u8 a7,.int .u8 a8,.int .u8 a9,.int .u8 a10,.int .u8 a11,.int .u16 ty,.string ld] 111 (0,0))):=hide (by rw [hv2]; exact unhide HR1)
  rw [← hv2]
  clear hv2 HM1 HR1 HV c1 c2 c3 c4 c5 c6 g0 g1 g2 g3 g4 g5 hq1 hq2 x0 x1 x2 x3 x4 x5 x6 x7 x8 x9 x10 x11 x12 x13
  obtain ⟨x0,x1,x2,x3,x4,x5,x6,x7,x8,x9,x10,x11,x12,x13⟩:=row14 (unhide HR2)
  clear x0 x1 x2 x3 x4 x5 x6 x7 x8 x9 x10 x11
  have HX:=hide (hA v2)
  clear hA
  go_wp2_with fail
  refine (unhide HX).mono ?_
  rintro ee u3 ⟨rfl,hb3⟩
  have HM3:=hide (((unhide HM2).below hb3).alloc (.cells #[.int .u16 op,.int .u8 f0,.int .u8 f1,.int .u8 f2,.int .u8 f3,.int .u8 f4,.int .u8 f5,.int .u32 fip,.int .u8 t0,.int .u8 t1,.int .u8 t2,.int .u8 t3,.int .u8 t4,.int .u8 t5,.int .u32 tip] 115))
  have HR3:=hide ((Below.heap_alloc u3 (.cells #[.int .u16 op,.int .u8 f0,.int .u8 f1,.int .u8 f2,.int .u8 f3,.int .u8 f4,.int .u8 f5,.int .u32 fip,.int .u8 t0,.int .u8 t1,.int .u8 t2,.int .u8 t3,.int .u8 t4,.int .u8 t5,.int .u32 tip] 115) u1.heap.size (by have:=hb3.size; have:=lt_of_block' (unhide HR2); omega)).trans ((hb3.block u1.heap.size (lt_of_block' (unhide HR2))).trans (unhide HR2)))
  have HY3:Hid ((u3.alloc (.cells #[.int .u16 op,.int .u8 f0,.int .u8 f1,.int .u8 f2,.int .u8 f3,.int .u8 f4,.int .u8 f5,.int .u32 fip,.int .u8 t0,.int .u8 t1,.int .u8 t2,.int .u8 t3,.int .u8 t4,.int .u8 t5,.int .u32 tip] 115)).heap[u3.heap.size]?=some (.cells #[.int .u16 op,.int .u8 f0,.int .u8 f1,.int .u8 f2,.int .u8 f3,.int .u8 f4,.int .u8 f5,.int .u32 fip,.int .u8 t0,.int .u8 t1,.int .u8 t2,.int .u8 t3,.int .u8 t4,.int .u8 t5,.int .u32 tip] 115 (0,0))):=hide (heap_alloc_new u3 _)
  clear hb3 HX HM2 HR2 x12 x13
  obtain ⟨y0,y1,y2,y3,y4,y5,y6,y7,y8,y9,y10,y11,y12,y13⟩:=row14 (unhide HR3)
  go_wp2
  go_returns
  exact ⟨rfl,unhide HM3⟩
set_option maxHeartbeats 4000000 in
set_option maxRecDepth 10000 in
theorem frame_arp (h:Rm w0 P w G r) (s:ByteArray) (a0 a1 a2 a3 a4 a5 a6 a7 a8 a9 a10 a11 ty:Int) (ld:ByteArray) (k:Int) (op f0 f1 f2 f3 f4 f5 fip t0 t1 t2 t3 t4 t5 tip kA:Int) (hA:∀ u,Calls Tryz.prog 66 #[.string ld] u fun e w'=>e=.returned (.tuple #[.agg #[.int .u16 op,.int .u8 f0,.int .u8 f1,.int .u8 f2,.int .u8 f3,.int .u8 f4,.int .u8 f5,.int .u32 fip,.int .u8 t0,.int .u8 t1,.int .u8 t2,.int .u8 t3,.int .u8 t4,.int .u8 t5,.int .u32 tip],.int .i64 kA])∧Below u.heap.size u w') (hE:∀ u,Calls Tryz.prog 65 #[.string s] u fun e w'=>e=.returned (.tuple #[.agg #[.int .u8 a0,.int .u8 a1,.int .u8 a2,.int .u8 a3,.int .u8 a4,.int .u8 a5,.int .u8 a6,.int .u8 a7,.int .u8 a8,.int .u8 a9,.int .u8 a10,.int .u8 a11,.int .u16 ty,.string ld],.int .i64 k])∧Below u.heap.size u w') (hk:k=0) (hT:toMeR r a0 a1 a2 a3 a4 a5=true) (hty:ty=2054) (hkA:kA=0) (hAct:ActR 67 #[.pointer (some ⟨G,0,none⟩),.agg #[.int .u16 op,.int .u8 f0,.int .u8 f1,.int .u8 f2,.int .u8 f3,.int .u8 f4,.int .u8 f5,.int .u32 fip,.int .u8 t0,.int .u8 t1,.int .u8 t2,.int .u8 t3,.int .u8 t4,.int .u8 t5,.int .u32 tip]] G r r') :
  Calls Tryz.prog 44 #[.pointer (some ⟨G,0,none⟩),.string s] w fun ee w'=>ee=.returned (.tuple #[])∧Rm w0 P w' G r':=by
 subst hk
 have e1:(ty==2054)=true:=by simpa using hty
 have e2:(ty != 2048)=true:=by rw [hty]; rfl
 clear hty
 subst hkA
 have HAct:=hide hAct
 clear hAct
 have HR:=hide (hE w)
 have HM:=hide h
 have hq1:=fun u=>mac_eq a0 a1 a2 a3 a4 a5 r.k0.toNat r.k1.toNat r.k2.toNat r.k3.toNat r.k4.toNat r.k5.toNat u
 have hq2:=fun u=>mac_eq a0 a1 a2 a3 a4 a5 255 255 255 255 255 255 u
 unfold toMeR at hT
 generalize (a0==(r.k0.toNat:Int)&&a1==(r.k1.toNat:Int)&&a2==(r.k2.toNat:Int)&&a3==(r.k3.toNat:Int)&&a4==(r.k4.toNat:Int)&&a5==(r.k5.toNat:Int))=b1 at hq1 hT
 generalize (a0==255&&a1==255&&a2==255&&a3==255&&a4==255&&a5==255)=b2 at hq2 hT
 clear hE h
 go_enter Tryz.func44,Tryz.ntmps44
 go_wp2_with fail
 refine (unhide HR).mono ?_
 rintro ee u1 ⟨rfl,hb1⟩
 have HM1:=hide (((unhide HM).below hb1).alloc (.cells #[.int .u8 a0,.int .u8 a1,.int .u8 a2,.int .u8 a3,.int .u8 a4,.int .u8 a5,.int .u8 a6,.int .u8 a7,.int .u8 a8,.int .u8 a9,.int .u8 a10,.int .u8 a11,.int .u16 ty,.string ld] 111))
 have HR1:Hid ((u1.alloc (.cells #[.int .u8 a0,.int .u8 a1,.int .u8 a2,.int .u8 a3,.int .u8 a4,.int .u8 a5,.int .u8 a6,.int .u8 a7,.int .u8 a8,.int .u8 a9,.int .u8 a10,.int .u8 a11,.int .u16 ty,.string ld] 111)).heap[u1.heap.size]?=some (.cells #[.int .u8 a0,.int .u8 a1,.int .u8 a2,.int .u8 a3,.int .u8 a4,.int .u8 a5,.int .u8 a6,.int .u8 a7,.int .u8 a8,.int .u8 a9,.int .u8 a10,.int .u8 a11,.int .u16 ty,.string ld] 111 (0,0))):=hide (heap_alloc_new u1 _)
 have HNF0:¬ FootR G r u1.heap.size:=fun hf=>Nat.lt_irrefl _ (((unhide HM).below hb1).foot_lt hf)
 clear hb1 HR HM
 obtain ⟨v,hv⟩:∃ v,v=u1.alloc (.cells #[.int .u8 a0,.int .u8 a1,.int .u8 a2,.int .u8 a3,.int .u8 a4,.int .u8 a5,.int .u8 a6,.int .u8 a7,.int .u8 a8,.int .u8 a9,.int .u8 a10,.int .u8 a11,.int .u16 ty,.string ld] 111):=⟨_,rfl⟩
 rw [← hv] at HM1 HR1
 have HV:=hide hv
 clear hv
 have hb:b1=true∨(b1=false∧b2=true):=by cases b1 <;> simp_all
 clear hT
 rcases hb with rfl | ⟨rfl,rfl⟩
 all_goals
  go_wp2
  rw [← unhide HV]
  have c1:=(unhide HM1).c1
  have c2:=(unhide HM1).c2
  have c3:=(unhide HM1).c3
  have c4:=(unhide HM1).c4
  have c5:=(unhide HM1).c5
  have c6:=(unhide HM1).c6
  obtain ⟨g0,g1,g2,g3,g4,g5⟩:=(unhide HM1).all6
  obtain ⟨x0,x1,x2,x3,x4,x5,x6,x7,x8,x9,x10,x11,x12,x13⟩:=row14 (unhide HR1)
  go_quiet (fail)
  obtain ⟨v2,hv2⟩:∃ v2,v2=v.drewN nq:=⟨_,rfl⟩
  have HM2:Hid (Rm w0 P v2 G r):=hide (by rw [hv2]; exact (unhide HM1).like ⟨rfl,rfl,rfl,rfl⟩)
  have HR2:Hid (v2.heap[u1.heap.size]?=some (.cells #[.int .u8 a0,.int .u8 a1,.int .u8 a2,.int .u8 a3,.int .u8 a4,.int .u8 a5,.int .u8 a6,.int .u8 a7,.int .u8 a8,.int .u8 a9,.int .u8 a10,.int .u8 a11,.int .u16 ty,.string ld] 111 (0,0))):=hide (by rw [hv2]; exact unhide HR1)
  rw [← hv2]
  clear hv2 HM1 HR1 HV c1 c2 c3 c4 c5 c6 g0 g1 g2 g3 g4 g5 hq1 hq2 x0 x1 x2 x3 x4 x5 x6 x7 x8 x9 x10 x11 x12 x13
  obtain ⟨x0,x1,x2,x3,x4,x5,x6,x7,x8,x9,x10,x11,x12,x13⟩:=row14 (unhide HR2)
  clear x0 x1 x2 x3 x4 x5 x6 x7 x8 x9 x10 x11
  have HNFx:¬ FootR G r u1.heap.size:=HNF0
  have HX:=hide (hA v2)
  clear hA
  go_wp2_with fail
  refine (unhide HX).mono ?_
  rintro ee u3 ⟨rfl,hb3⟩
  have HM3:=hide (((unhide HM2).below hb3).alloc (.cells #[.int .u16 op,.int .u8 f0,.int .u8 f1,.int .u8 f2,.int .u8 f3,.int .u8 f4,.int .u8 f5,.int .u32 fip,.int .u8 t0,.int .u8 t1,.int .u8 t2,.int .u8 t3,.int .u8 t4,.int .u8 t5,.int .u32 tip] 115))
  have HR3:=hide ((Below.heap_alloc u3 (.cells #[.int .u16 op,.int .u8 f0,.int .u8 f1,.int .u8 f2,.int .u8 f3,.int .u8 f4,.int .u8 f5,.int .u32 fip,.int .u8 t0,.int .u8 t1,.int .u8 t2,.int .u8 t3,.int .u8 t4,.int .u8 t5,.int .u32 tip] 115) u1.heap.size (by have:=hb3.size; have:=lt_of_block' (unhide HR2); omega)).trans ((hb3.block u1.heap.size (lt_of_block' (unhide HR2))).trans (unhide HR2)))
  have HNF:¬ FootR G r u1.heap.size:=HNFx
  have HY3:Hid ((u3.alloc (.cells #[.int .u16 op,.int .u8 f0,.int .u8 f1,.int .u8 f2,.int .u8 f3,.int .u8 f4,.int .u8 f5,.int .u32 fip,.int .u8 t0,.int .u8 t1,.int .u8 t2,.int .u8 t3,.int .u8 t4,.int .u8 t5,.int .u32 tip] 115)).heap[u3.heap.size]?=some (.cells #[.int .u16 op,.int .u8 f0,.int .u8 f1,.int .u8 f2,.int .u8 f3,.int .u8 f4,.int .u8 f5,.int .u32 fip,.int .u8 t0,.int .u8 t1,.int .u8 t2,.int .u8 t3,.int .u8 t4,.int .u8 t5,.int .u32 tip] 115 (0,0))):=hide (heap_alloc_new u3 _)
  clear hb3 HX HM2 HR2 x12 x13
  obtain ⟨z0,z1,z2,z3,z4,z5,z6,z7,z8,z9,z10,z11,z12,z13,z14⟩:=row15 (unhide HY3)
  have HC:=hide (unhide HAct _ _ _ (unhide HM3).base)
  go_wp2_with fail
  refine (unhide HC).mono ?_
  rintro ee u4 ⟨rfl,h4⟩
  have HM4:=hide ((unhide HM3).join h4)
  have HR4:=hide ((h4.kept u1.heap.size (lt_of_block' (unhide HR3)) HNF).trans (unhide HR3))
  clear h4 HC HM3 z0 z1 z2 z3 z4 z5 z6 z7 z8 z9 z10 z11 z12 z13 z14
  obtain ⟨y0,y1,y2,y3,y4,y5,y6,y7,y8,y9,y10,y11,y12,y13⟩:=row14 (unhide HR4)
  go_wp2
  go_returns
  exact ⟨rfl,unhide HM4⟩

end Go.Proofs.YtbhbbeebncmaiaaGreatDoor.Ref
