import Derived.Test.YtbhbbeebncmaiaaGreatDoorMgZ29
import Derived.Test.YtbhbbeebncmaiaaGreatDoorMgZ08
import Derived.Test.YtbhbbeebncmaiaaGreatDoorMgZ38
import Derived.Test.YtbhbbeebncmaiaaGreatDoorMgZ24
import Derived.Test.YtbhbbeebncmaiaaGreatDoorMgZ46
namespace Go.Proofs.YtbhbbeebncmaiaaGreatDoor.Mac
open Go.ChangeShapes Go.WideShapes Go.ChangeAt Go.RowKit Bs
set_option linter.unusedVariables false
set_option linter.unusedSimpArgs false
variable {w0 : World} {P : Nat → Prop} {w w' : World} {B : Nat} {m m' : Mc}
theorem isIn_yes (n a b:Int) (w:World) (h1:a≤n) (h2:n≤b):Calls Tryz.prog 77 #[.int .i64 n,.int .i64 a,.int .i64 b] w fun e w'=>e=.returned (.bool true)∧w'=w:=by
 have q:=isIn_any n a b w
 have e:(decide (a≤n)&&decide (n≤b))=true:=by simp [h1,h2]
 rw [e] at q
 exact q
structure Cfg where
 k0:UInt8
 k1:UInt8
 k2:UInt8
 k3:UInt8
 k4:UInt8
 k5:UInt8
 name:ByteArray
 cap:Int
 dig:ByteArray
 blk:Int
 win:Int
 rx:Int
 tx:Int
structure Cfg.Good (c:Cfg):Prop where
 card:cardB c.k0 c.k1 c.k2 c.k3 c.k4 c.k5=true
 name:Tf.nameB c.name.data.toList=true
 long:c.name.size≤20
 dig:c.dig.size=32
 cap:1≤c.cap∧c.cap≤600000
 blk:8≤c.blk∧c.blk≤1024
 win:1≤c.win∧c.win≤8
 rx:1≤c.rx∧c.rx≤16
 tx:1≤c.tx∧c.tx≤16
set_option maxHeartbeats 1000000 in
theorem mayBe_good (c:Cfg) (hg:c.Good) (w:World):Calls Tryz.prog 48 #[.agg #[.int .u8 c.k0.toNat,.int .u8 c.k1.toNat,.int .u8 c.k2.toNat,.int .u8 c.k3.toNat,.int .u8 c.k4.toNat,.int .u8 c.k5.toNat,.string c.name,.int .i64 c.cap,.string c.dig,.int .i64 c.blk,.int .i64 c.win,.int .i64 c.rx,.int .i64 c.tx]] w fun e w'=>e=.returned (.bool true)∧Below w.heap.size w w':=by
 obtain ⟨k0,k1,k2,k3,k4,k5,name,cap,dig,blk,win,rx,tx⟩:=c
 obtain ⟨g1,g2,g3,g4,g5,g6,g7,g8,g9⟩:=hg
 dsimp only at *
 have HC:=fun u=>hide (isCard_any k0 k1 k2 k3 k4 k5 u)
 rw [g1] at HC
 have HN:=fun u=>hide (Tf.isName_any name _ u rfl (by rw [len_str]; omega))
 rw [g2] at HN
 have hlen:(name.size:Int)≤20:=by omega
 have hdig:((dig.size:Int)==32)=true:=by rw [g4]; rfl
 obtain ⟨h5a,h5b⟩:=g5
 obtain ⟨h6a,h6b⟩:=g6
 obtain ⟨h7a,h7b⟩:=g7
 obtain ⟨h8a,h8b⟩:=g8
 obtain ⟨h9a,h9b⟩:=g9
 clear g1 g2 g3 g4
 go_enter Tryz.func48,Tryz.ntmps48
 go_wp2_with fail
 refine (unhide (HC _)).mono ?_
 rintro ee u ⟨rfl,hb⟩
 have hc:=Arp.below_cells hb
 have HB:=hide hb
 clear hb HC
 go_wp2_with fail
 refine (unhide (HN _)).mono ?_
 rintro ee u2 ⟨rfl,rfl⟩
 go_wp2_with fail
 refine (isIn_yes _ _ _ _ h5a h5b).mono ?_
 rintro ee u3 ⟨rfl,rfl⟩
 go_wp2_with fail
 refine (isIn_yes _ _ _ _ h6a h6b).mono ?_
 rintro ee u4 ⟨rfl,rfl⟩
 go_wp2_with fail
 refine (isIn_yes _ _ _ _ h7a h7b).mono ?_
 rintro ee u5 ⟨rfl,rfl⟩
 go_wp2_with fail
 refine (isIn_yes _ _ _ _ h8a h8b).mono ?_
 rintro ee u6 ⟨rfl,rfl⟩
 go_wp2_with fail
 refine (isIn_yes _ _ _ _ h9a h9b).mono ?_
 rintro ee u7 ⟨rfl,rfl⟩
 go_wp2
 go_ret
 exact ⟨rfl,((Below.refl w.heap.size w).alloc (Nat.le_refl _) _).trans ((unhide HB).mono (by simp))⟩
end Go.Proofs.YtbhbbeebncmaiaaGreatDoor.Mac
namespace Go.Proofs.YtbhbbeebncmaiaaGreatDoor.Rr
open Go.ChangeShapes Go.WideShapes Go.ChangeAt Go.RowKit Bs Rd
open Ip (chk)
set_option linter.unusedVariables false
set_option linter.unusedSimpArgs false
set_option maxHeartbeats 4000000 in
set_option maxRecDepth 10000 in
theorem ip_lenf (a0 a1 a2 a3 a4 a5 a6 a7 a8 a9 a10 a11 a12 a13 a14 a15 a16 a17 a18 a19:UInt8) (l:List UInt8) (w:World) (hl:l.length+20≤9223372036854775807) (h0:a0.toNat=69) (hn:(256*(a2.toNat:Int)+(a3.toNat:Int))<20) :
  Calls Tryz.prog 68 #[.string ⟨(a0::a1::a2::a3::a4::a5::a6::a7::a8::a9::a10::a11::a12::a13::a14::a15::a16::a17::a18::a19::l).toArray⟩] w fun ee w'=>ee=.returned (.tuple #[.agg #[.int .u16 0,.int .u8 0,.int .u8 0,.int .u32 0,.int .u32 0,.string ⟨#[]⟩],.int .i64 2])∧Below w.heap.size w w':=by
 obtain ⟨s,hS⟩:∃ s:ByteArray,s=⟨(a0::a1::a2::a3::a4::a5::a6::a7::a8::a9::a10::a11::a12::a13::a14::a15::a16::a17::a18::a19::l).toArray⟩:=⟨_,rfl⟩
 have hz:s.size=l.length+20:=by rw [hS,str_size]; simp
 have hmx:(s.size:Int)≤9223372036854775807:=by omega
 have k20:(20:Int)≤(s.size:Int):=by omega
 have k20':¬ (s.size:Int)<20:=by omega
 have k2:(2:Int)≤(s.size:Int):=by omega
 have k4:(4:Int)≤(s.size:Int):=by omega
 have k6:(6:Int)≤(s.size:Int):=by omega
 have k8:(8:Int)≤(s.size:Int):=by omega
 have k9:(9:Int)≤(s.size:Int):=by omega
 have k12:(12:Int)≤(s.size:Int):=by omega
 have k16:(16:Int)≤(s.size:Int):=by omega
 have O2:Hid (∀ u:World,Calls Tryz.prog 102 #[.string (s.extract 2 4)] u fun ee w'=>ee=.returned (.int .i64 (256*(a2.toNat:Int)+(a3.toNat:Int)))∧w'=u):=hide (fun u=>by
  have e1:s.extract 2 4=⟨#[a2,a3]⟩:=by rw [hS]; apply ByteArray.ext; rw [ByteArray.data_extract]; apply Array.ext'; simp
  rw [e1]
  have q:=of_any ⟨#[a2,a3]⟩ u (show 2≤4 by omega)
  rw [show ofL (⟨#[a2,a3]⟩:ByteArray).data.toList=(256*(a2.toNat:Int)+(a3.toNat:Int)) from by simp [ofL]] at q
  exact q)
 have O6:Hid (∀ u:World,Calls Tryz.prog 102 #[.string (s.extract 6 8)] u fun ee w'=>ee=.returned (.int .i64 (256*(a6.toNat:Int)+(a7.toNat:Int)))∧w'=u):=hide (fun u=>by
  have e1:s.extract 6 8=⟨#[a6,a7]⟩:=by rw [hS]; apply ByteArray.ext; rw [ByteArray.data_extract]; apply Array.ext'; simp
  rw [e1]
  have q:=of_any ⟨#[a6,a7]⟩ u (show 2≤4 by omega)
  rw [show ofL (⟨#[a6,a7]⟩:ByteArray).data.toList=(256*(a6.toNat:Int)+(a7.toNat:Int)) from by simp [ofL]] at q
  exact q)
 have i0:∀ u,(Instr.index 9 (.string s) (.int .i64 0)).run Tryz.prog u=.ok (.int .u8 a0.toNat) u:=fun _=>by rw [hS]; kernel_rfl
 have p0:=a0.toNat_lt
 have p2:=a2.toNat_lt
 have p3:=a3.toNat_lt
 have p6:=a6.toNat_lt
 have p7:=a7.toNat_lt
 obtain ⟨x0,hx0⟩:∃ x,x=(a0.toNat:Int):=⟨_,rfl⟩
 obtain ⟨x6,hx6⟩:∃ x,x=(256*(a6.toNat:Int)+(a7.toNat:Int)):=⟨_,rfl⟩
 have y0:0≤x0:=by omega
 have y0':x0≤255:=by omega
 have y6:0≤x6:=by omega
 have y6':x6≤65535:=by omega
 have w0:IntKind.i64.wrap x0=x0:=wrap_i64 _ (by omega) (by omega)
 rw [← hx6] at O6
 rw [← hx0] at i0
 have t1:x0 / 16=4:=by omega
 have t2:x0 % 16=5:=by omega
 obtain ⟨x2,hx2⟩:∃ x,x=(256*(a2.toNat:Int)+(a3.toNat:Int)):=⟨_,rfl⟩
 rw [← hx2] at O2 hn
 have d0:decide (x2<20)=true:=by simp; omega
 rw [← hS]
 clear hS hz hx0 hx6 p0 p2 p3 p6 p7 hl hx2 h0
 go_enter Tryz.func68,Tryz.ntmps68
 go_wp2_with fail
 refine (unhide O2 _).mono ?_
 rintro ee wz ⟨rfl,hwz⟩
 rw [hwz]
 clear hwz wz
 go_wp2_with fail
 refine (unhide O6 _).mono ?_
 rintro ee wz ⟨rfl,hwz⟩
 rw [hwz]
 clear hwz wz
 go_wp2
 exact bodyPost_ret (v:=.tuple #[.agg #[.int .u16 0,.int .u8 0,.int .u8 0,.int .u32 0,.int .u32 0,.string ⟨#[]⟩],.int .i64 2]) (by simp [results,Tryz.results68,go_sem]) rfl ⟨rfl,(Below.refl _ _).alloc (Nat.le_refl _) _⟩

set_option maxHeartbeats 4000000 in
set_option maxRecDepth 10000 in
theorem ip_lens (a0 a1 a2 a3 a4 a5 a6 a7 a8 a9 a10 a11 a12 a13 a14 a15 a16 a17 a18 a19:UInt8) (l:List UInt8) (w:World) (hl:l.length+20≤9223372036854775807) (h0:a0.toNat=69) (hn:20≤(256*(a2.toNat:Int)+(a3.toNat:Int))) (hn2:((l.length+20:Nat):Int)<(256*(a2.toNat:Int)+(a3.toNat:Int))) :
  Calls Tryz.prog 68 #[.string ⟨(a0::a1::a2::a3::a4::a5::a6::a7::a8::a9::a10::a11::a12::a13::a14::a15::a16::a17::a18::a19::l).toArray⟩] w fun ee w'=>ee=.returned (.tuple #[.agg #[.int .u16 0,.int .u8 0,.int .u8 0,.int .u32 0,.int .u32 0,.string ⟨#[]⟩],.int .i64 1])∧Below w.heap.size w w':=by
 obtain ⟨s,hS⟩:∃ s:ByteArray,s=⟨(a0::a1::a2::a3::a4::a5::a6::a7::a8::a9::a10::a11::a12::a13::a14::a15::a16::a17::a18::a19::l).toArray⟩:=⟨_,rfl⟩
 have hz:s.size=l.length+20:=by rw [hS,str_size]; simp
 have hmx:(s.size:Int)≤9223372036854775807:=by omega
 have k20:(20:Int)≤(s.size:Int):=by omega
 have k20':¬ (s.size:Int)<20:=by omega
 have k2:(2:Int)≤(s.size:Int):=by omega
 have k4:(4:Int)≤(s.size:Int):=by omega
 have k6:(6:Int)≤(s.size:Int):=by omega
 have k8:(8:Int)≤(s.size:Int):=by omega
 have k9:(9:Int)≤(s.size:Int):=by omega
 have k12:(12:Int)≤(s.size:Int):=by omega
 have k16:(16:Int)≤(s.size:Int):=by omega
 have O2:Hid (∀ u:World,Calls Tryz.prog 102 #[.string (s.extract 2 4)] u fun ee w'=>ee=.returned (.int .i64 (256*(a2.toNat:Int)+(a3.toNat:Int)))∧w'=u):=hide (fun u=>by
  have e1:s.extract 2 4=⟨#[a2,a3]⟩:=by rw [hS]; apply ByteArray.ext; rw [ByteArray.data_extract]; apply Array.ext'; simp
  rw [e1]
  have q:=of_any ⟨#[a2,a3]⟩ u (show 2≤4 by omega)
  rw [show ofL (⟨#[a2,a3]⟩:ByteArray).data.toList=(256*(a2.toNat:Int)+(a3.toNat:Int)) from by simp [ofL]] at q
  exact q)
 have O6:Hid (∀ u:World,Calls Tryz.prog 102 #[.string (s.extract 6 8)] u fun ee w'=>ee=.returned (.int .i64 (256*(a6.toNat:Int)+(a7.toNat:Int)))∧w'=u):=hide (fun u=>by
  have e1:s.extract 6 8=⟨#[a6,a7]⟩:=by rw [hS]; apply ByteArray.ext; rw [ByteArray.data_extract]; apply Array.ext'; simp
  rw [e1]
  have q:=of_any ⟨#[a6,a7]⟩ u (show 2≤4 by omega)
  rw [show ofL (⟨#[a6,a7]⟩:ByteArray).data.toList=(256*(a6.toNat:Int)+(a7.toNat:Int)) from by simp [ofL]] at q
  exact q)
 have i0:∀ u,(Instr.index 9 (.string s) (.int .i64 0)).run Tryz.prog u=.ok (.int .u8 a0.toNat) u:=fun _=>by rw [hS]; kernel_rfl
 have p0:=a0.toNat_lt
 have p2:=a2.toNat_lt
 have p3:=a3.toNat_lt
 have p6:=a6.toNat_lt
 have p7:=a7.toNat_lt
 obtain ⟨x0,hx0⟩:∃ x,x=(a0.toNat:Int):=⟨_,rfl⟩
 obtain ⟨x6,hx6⟩:∃ x,x=(256*(a6.toNat:Int)+(a7.toNat:Int)):=⟨_,rfl⟩
 have y0:0≤x0:=by omega
 have y0':x0≤255:=by omega
 have y6:0≤x6:=by omega
 have y6':x6≤65535:=by omega
 have w0:IntKind.i64.wrap x0=x0:=wrap_i64 _ (by omega) (by omega)
 rw [← hx6] at O6
 rw [← hx0] at i0
 have t1:x0 / 16=4:=by omega
 have t2:x0 % 16=5:=by omega
 obtain ⟨x2,hx2⟩:∃ x,x=(256*(a2.toNat:Int)+(a3.toNat:Int)):=⟨_,rfl⟩
 rw [← hx2] at O2 hn
 have d0:decide (x2<20)=false:=by simp; omega
 rw [← hx2] at hn2
 have m1:(s.size:Int)<x2:=by omega
 have d1:decide ((s.size:Int)<x2)=true:=by simp; omega
 rw [← hS]
 clear hS hz hx0 hx6 p0 p2 p3 p6 p7 hl hx2 h0 hn hn2
 go_enter Tryz.func68,Tryz.ntmps68
 go_wp2_with fail
 refine (unhide O2 _).mono ?_
 rintro ee wz ⟨rfl,hwz⟩
 rw [hwz]
 clear hwz wz
 go_wp2_with fail
 refine (unhide O6 _).mono ?_
 rintro ee wz ⟨rfl,hwz⟩
 rw [hwz]
 clear hwz wz
 go_wp2
 exact bodyPost_ret (v:=.tuple #[.agg #[.int .u16 0,.int .u8 0,.int .u8 0,.int .u32 0,.int .u32 0,.string ⟨#[]⟩],.int .i64 1]) (by simp [results,Tryz.results68,go_sem]) rfl ⟨rfl,(Below.refl _ _).alloc (Nat.le_refl _) _⟩

set_option maxHeartbeats 4000000 in
set_option maxRecDepth 10000 in
theorem ip_sum (a0 a1 a2 a3 a4 a5 a6 a7 a8 a9 a10 a11 a12 a13 a14 a15 a16 a17 a18 a19:UInt8) (l:List UInt8) (w:World) (hl:l.length+20≤9223372036854775807) (h0:a0.toNat=69) (k:Nat) (hn:(256*(a2.toNat:Int)+(a3.toNat:Int))=20+(k:Int)) (hk:k≤l.length) (hsum:chk [a0,a1,a2,a3,a4,a5,a6,a7,a8,a9,a10,a11,a12,a13,a14,a15,a16,a17,a18,a19]≠0) :
  Calls Tryz.prog 68 #[.string ⟨(a0::a1::a2::a3::a4::a5::a6::a7::a8::a9::a10::a11::a12::a13::a14::a15::a16::a17::a18::a19::l).toArray⟩] w fun ee w'=>ee=.returned (.tuple #[.agg #[.int .u16 0,.int .u8 0,.int .u8 0,.int .u32 0,.int .u32 0,.string ⟨#[]⟩],.int .i64 6])∧Below w.heap.size w w':=by
 obtain ⟨s,hS⟩:∃ s:ByteArray,s=⟨(a0::a1::a2::a3::a4::a5::a6::a7::a8::a9::a10::a11::a12::a13::a14::a15::a16::a17::a18::a19::l).toArray⟩:=⟨_,rfl⟩
 have hz:s.size=l.length+20:=by rw [hS,str_size]; simp
 have hmx:(s.size:Int)≤9223372036854775807:=by omega
 have k20:(20:Int)≤(s.size:Int):=by omega
 have k20':¬ (s.size:Int)<20:=by omega
 have k2:(2:Int)≤(s.size:Int):=by omega
 have k4:(4:Int)≤(s.size:Int):=by omega
 have k6:(6:Int)≤(s.size:Int):=by omega
 have k8:(8:Int)≤(s.size:Int):=by omega
 have k9:(9:Int)≤(s.size:Int):=by omega
 have k12:(12:Int)≤(s.size:Int):=by omega
 have k16:(16:Int)≤(s.size:Int):=by omega
 have O2:Hid (∀ u:World,Calls Tryz.prog 102 #[.string (s.extract 2 4)] u fun ee w'=>ee=.returned (.int .i64 (256*(a2.toNat:Int)+(a3.toNat:Int)))∧w'=u):=hide (fun u=>by
  have e1:s.extract 2 4=⟨#[a2,a3]⟩:=by rw [hS]; apply ByteArray.ext; rw [ByteArray.data_extract]; apply Array.ext'; simp
  rw [e1]
  have q:=of_any ⟨#[a2,a3]⟩ u (show 2≤4 by omega)
  rw [show ofL (⟨#[a2,a3]⟩:ByteArray).data.toList=(256*(a2.toNat:Int)+(a3.toNat:Int)) from by simp [ofL]] at q
  exact q)
 have O6:Hid (∀ u:World,Calls Tryz.prog 102 #[.string (s.extract 6 8)] u fun ee w'=>ee=.returned (.int .i64 (256*(a6.toNat:Int)+(a7.toNat:Int)))∧w'=u):=hide (fun u=>by
  have e1:s.extract 6 8=⟨#[a6,a7]⟩:=by rw [hS]; apply ByteArray.ext; rw [ByteArray.data_extract]; apply Array.ext'; simp
  rw [e1]
  have q:=of_any ⟨#[a6,a7]⟩ u (show 2≤4 by omega)
  rw [show ofL (⟨#[a6,a7]⟩:ByteArray).data.toList=(256*(a6.toNat:Int)+(a7.toNat:Int)) from by simp [ofL]] at q
  exact q)
 have i0:∀ u,(Instr.index 9 (.string s) (.int .i64 0)).run Tryz.prog u=.ok (.int .u8 a0.toNat) u:=fun _=>by rw [hS]; kernel_rfl
 have p0:=a0.toNat_lt
 have p2:=a2.toNat_lt
 have p3:=a3.toNat_lt
 have p6:=a6.toNat_lt
 have p7:=a7.toNat_lt
 obtain ⟨x0,hx0⟩:∃ x,x=(a0.toNat:Int):=⟨_,rfl⟩
 obtain ⟨x6,hx6⟩:∃ x,x=(256*(a6.toNat:Int)+(a7.toNat:Int)):=⟨_,rfl⟩
 have y0:0≤x0:=by omega
 have y0':x0≤255:=by omega
 have y6:0≤x6:=by omega
 have y6':x6≤65535:=by omega
 have w0:IntKind.i64.wrap x0=x0:=wrap_i64 _ (by omega) (by omega)
 rw [← hx6] at O6
 rw [← hx0] at i0
 have t1:x0 / 16=4:=by omega
 have t2:x0 % 16=5:=by omega
 obtain ⟨m,hm⟩:∃ m:Nat,m=20+k:=⟨_,rfl⟩
 have hxm:(256*(a2.toNat:Int)+(a3.toNat:Int))=(m:Int):=by omega
 rw [hxm] at O2
 have m0:(20:Int)≤(m:Int):=by omega
 have m1:(m:Int)≤(s.size:Int):=by omega
 have d0:decide ((m:Int)<20)=false:=by simp; omega
 have d1:decide ((s.size:Int)<(m:Int))=false:=by simp; omega
 have TC:=(fun u=>Chk.ref_check (s.extract 0 20) u (by rw [ByteArray.size_extract]; omega))
 have ec:65535 - Chk.fold (Chk.wsum (s.extract 0 20).data.toList)=chk [a0,a1,a2,a3,a4,a5,a6,a7,a8,a9,a10,a11,a12,a13,a14,a15,a16,a17,a18,a19]:=by
  rw [hS,str_take]; simp [chk]
 obtain ⟨c,hc⟩:∃ c,c=chk [a0,a1,a2,a3,a4,a5,a6,a7,a8,a9,a10,a11,a12,a13,a14,a15,a16,a17,a18,a19]:=⟨_,rfl⟩
 rw [ec,← hc] at TC
 rw [← hc] at hsum
 have TC:=hide TC
 have hcn:(c==0)=false:=by simpa using hsum
 have hcm:¬ c=0:=hsum
 rw [← hS]
 clear hS hz hx0 hx6 p0 p2 p3 p6 p7 hl hxm hm ec hc hn hk h0
 go_enter Tryz.func68,Tryz.ntmps68
 go_wp2_with fail
 refine (unhide O2 _).mono ?_
 rintro ee wz ⟨rfl,hwz⟩
 rw [hwz]
 clear hwz wz
 go_wp2_with fail
 refine (unhide O6 _).mono ?_
 rintro ee wz ⟨rfl,hwz⟩
 rw [hwz]
 clear hwz wz
 go_wp2_with fail
 refine (unhide TC _).mono ?_
 rintro ee wz ⟨rfl,nn,hwz⟩
 have hr:wz.heap[w.heap.size]?=some (.cells #[.int .u16 0,.int .u8 0,.int .u8 0,.int .u32 0,.int .u32 0,.string ⟨#[]⟩] 120 (0,0)):=by rw [hwz]; exact heap_alloc_new w _
 have HB:Hid (Below w.heap.size w wz):=hide (by rw [hwz]; exact below_drewN ((Below.refl _ _).alloc (Nat.le_refl _) _) _)
 have q0:wz.cell? ⟨w.heap.size,0,none⟩=some (.int .u16 0):=EtR.row_cell hr rfl
 have q1:wz.cell? ⟨w.heap.size,1,none⟩=some (.int .u8 0):=EtR.row_cell hr rfl
 have q2:wz.cell? ⟨w.heap.size,2,none⟩=some (.int .u8 0):=EtR.row_cell hr rfl
 have q3:wz.cell? ⟨w.heap.size,3,none⟩=some (.int .u32 0):=EtR.row_cell hr rfl
 have q4:wz.cell? ⟨w.heap.size,4,none⟩=some (.int .u32 0):=EtR.row_cell hr rfl
 have q5:wz.cell? ⟨w.heap.size,5,none⟩=some (.string ⟨#[]⟩):=EtR.row_cell hr rfl
 have kd:=EtR.row_free hr
 clear hwz hr
 go_wp2
 refine bodyPost_ret (v:=.tuple #[.agg #[.int .u16 0,.int .u8 0,.int .u8 0,.int .u32 0,.int .u32 0,.string ⟨#[]⟩],.int .i64 6]) (by simp [results,Tryz.results68,go_sem,q0,q1,q2,q3,q4,q5]) rfl ⟨rfl,?_⟩
 iterate 6 refine EtR.below_at ?_
 exact unhide HB
end Go.Proofs.YtbhbbeebncmaiaaGreatDoor.Rr
namespace Go.Proofs.YtbhbbeebncmaiaaGreatDoor.Rr
open Go.ChangeShapes Go.WideShapes Go.ChangeAt Go.RowKit Bs Rd
open Ip (chk)
set_option linter.unusedVariables false
set_option linter.unusedSimpArgs false
set_option maxHeartbeats 4000000 in
set_option maxRecDepth 10000 in
theorem ip_flag (a0 a1 a2 a3 a4 a5 a6 a7 a8 a9 a10 a11 a12 a13 a14 a15 a16 a17 a18 a19:UInt8) (l:List UInt8) (w:World) (hl:l.length+20≤9223372036854775807) (h0:a0.toNat=69) (k:Nat) (hn:(256*(a2.toNat:Int)+(a3.toNat:Int))=20+(k:Int)) (hk:k≤l.length) (hsum:chk [a0,a1,a2,a3,a4,a5,a6,a7,a8,a9,a10,a11,a12,a13,a14,a15,a16,a17,a18,a19]=0) (hf:32768≤(256*(a6.toNat:Int)+(a7.toNat:Int))) :
  Calls Tryz.prog 68 #[.string ⟨(a0::a1::a2::a3::a4::a5::a6::a7::a8::a9::a10::a11::a12::a13::a14::a15::a16::a17::a18::a19::l).toArray⟩] w fun ee w'=>ee=.returned (.tuple #[.agg #[.int .u16 0,.int .u8 0,.int .u8 0,.int .u32 0,.int .u32 0,.string ⟨#[]⟩],.int .i64 2])∧Below w.heap.size w w':=by
 obtain ⟨s,hS⟩:∃ s:ByteArray,s=⟨(a0::a1::a2::a3::a4::a5::a6::a7::a8::a9::a10::a11::a12::a13::a14::a15::a16::a17::a18::a19::l).toArray⟩:=⟨_,rfl⟩
 have hz:s.size=l.length+20:=by rw [hS,str_size]; simp
 have hmx:(s.size:Int)≤9223372036854775807:=by omega
 have k20:(20:Int)≤(s.size:Int):=by omega
 have k20':¬ (s.size:Int)<20:=by omega
 have k2:(2:Int)≤(s.size:Int):=by omega
 have k4:(4:Int)≤(s.size:Int):=by omega
 have k6:(6:Int)≤(s.size:Int):=by omega
 have k8:(8:Int)≤(s.size:Int):=by omega
 have k9:(9:Int)≤(s.size:Int):=by omega
 have k12:(12:Int)≤(s.size:Int):=by omega
 have k16:(16:Int)≤(s.size:Int):=by omega
 have O2:Hid (∀ u:World,Calls Tryz.prog 102 #[.string (s.extract 2 4)] u fun ee w'=>ee=.returned (.int .i64 (256*(a2.toNat:Int)+(a3.toNat:Int)))∧w'=u):=hide (fun u=>by
  have e1:s.extract 2 4=⟨#[a2,a3]⟩:=by rw [hS]; apply ByteArray.ext; rw [ByteArray.data_extract]; apply Array.ext'; simp
  rw [e1]
  have q:=of_any ⟨#[a2,a3]⟩ u (show 2≤4 by omega)
  rw [show ofL (⟨#[a2,a3]⟩:ByteArray).data.toList=(256*(a2.toNat:Int)+(a3.toNat:Int)) from by simp [ofL]] at q
  exact q)
 have O6:Hid (∀ u:World,Calls Tryz.prog 102 #[.string (s.extract 6 8)] u fun ee w'=>ee=.returned (.int .i64 (256*(a6.toNat:Int)+(a7.toNat:Int)))∧w'=u):=hide (fun u=>by
  have e1:s.extract 6 8=⟨#[a6,a7]⟩:=by rw [hS]; apply ByteArray.ext; rw [ByteArray.data_extract]; apply Array.ext'; simp
  rw [e1]
  have q:=of_any ⟨#[a6,a7]⟩ u (show 2≤4 by omega)
  rw [show ofL (⟨#[a6,a7]⟩:ByteArray).data.toList=(256*(a6.toNat:Int)+(a7.toNat:Int)) from by simp [ofL]] at q
  exact q)
 have i0:∀ u,(Instr.index 9 (.string s) (.int .i64 0)).run Tryz.prog u=.ok (.int .u8 a0.toNat) u:=fun _=>by rw [hS]; kernel_rfl
 have p0:=a0.toNat_lt
 have p2:=a2.toNat_lt
 have p3:=a3.toNat_lt
 have p6:=a6.toNat_lt
 have p7:=a7.toNat_lt
 obtain ⟨x0,hx0⟩:∃ x,x=(a0.toNat:Int):=⟨_,rfl⟩
 obtain ⟨x6,hx6⟩:∃ x,x=(256*(a6.toNat:Int)+(a7.toNat:Int)):=⟨_,rfl⟩
 have y0:0≤x0:=by omega
 have y0':x0≤255:=by omega
 have y6:0≤x6:=by omega
 have y6':x6≤65535:=by omega
 have w0:IntKind.i64.wrap x0=x0:=wrap_i64 _ (by omega) (by omega)
 rw [← hx6] at O6
 rw [← hx0] at i0
 have t1:x0 / 16=4:=by omega
 have t2:x0 % 16=5:=by omega
 obtain ⟨m,hm⟩:∃ m:Nat,m=20+k:=⟨_,rfl⟩
 have hxm:(256*(a2.toNat:Int)+(a3.toNat:Int))=(m:Int):=by omega
 rw [hxm] at O2
 have m0:(20:Int)≤(m:Int):=by omega
 have m1:(m:Int)≤(s.size:Int):=by omega
 have d0:decide ((m:Int)<20)=false:=by simp; omega
 have d1:decide ((s.size:Int)<(m:Int))=false:=by simp; omega
 have TC:=(fun u=>Chk.ref_check (s.extract 0 20) u (by rw [ByteArray.size_extract]; omega))
 have ec:65535 - Chk.fold (Chk.wsum (s.extract 0 20).data.toList)=chk [a0,a1,a2,a3,a4,a5,a6,a7,a8,a9,a10,a11,a12,a13,a14,a15,a16,a17,a18,a19]:=by
  rw [hS,str_take]; simp [chk]
 obtain ⟨c,hc⟩:∃ c,c=chk [a0,a1,a2,a3,a4,a5,a6,a7,a8,a9,a10,a11,a12,a13,a14,a15,a16,a17,a18,a19]:=⟨_,rfl⟩
 rw [ec,← hc] at TC
 rw [← hc] at hsum
 have TC:=hide TC
 subst hsum
 have t4:32768≤x6:=by omega
 have d4:decide (32768≤x6)=true:=by simp; omega
 rw [← hS]
 clear hS hz hx0 hx6 p0 p2 p3 p6 p7 hl hxm hm ec hc hn hk h0 hf
 go_enter Tryz.func68,Tryz.ntmps68
 go_wp2_with fail
 refine (unhide O2 _).mono ?_
 rintro ee wz ⟨rfl,hwz⟩
 rw [hwz]
 clear hwz wz
 go_wp2_with fail
 refine (unhide O6 _).mono ?_
 rintro ee wz ⟨rfl,hwz⟩
 rw [hwz]
 clear hwz wz
 go_wp2_with fail
 refine (unhide TC _).mono ?_
 rintro ee wz ⟨rfl,nn,hwz⟩
 have hr:wz.heap[w.heap.size]?=some (.cells #[.int .u16 0,.int .u8 0,.int .u8 0,.int .u32 0,.int .u32 0,.string ⟨#[]⟩] 120 (0,0)):=by rw [hwz]; exact heap_alloc_new w _
 have HB:Hid (Below w.heap.size w wz):=hide (by rw [hwz]; exact below_drewN ((Below.refl _ _).alloc (Nat.le_refl _) _) _)
 have q0:wz.cell? ⟨w.heap.size,0,none⟩=some (.int .u16 0):=EtR.row_cell hr rfl
 have q1:wz.cell? ⟨w.heap.size,1,none⟩=some (.int .u8 0):=EtR.row_cell hr rfl
 have q2:wz.cell? ⟨w.heap.size,2,none⟩=some (.int .u8 0):=EtR.row_cell hr rfl
 have q3:wz.cell? ⟨w.heap.size,3,none⟩=some (.int .u32 0):=EtR.row_cell hr rfl
 have q4:wz.cell? ⟨w.heap.size,4,none⟩=some (.int .u32 0):=EtR.row_cell hr rfl
 have q5:wz.cell? ⟨w.heap.size,5,none⟩=some (.string ⟨#[]⟩):=EtR.row_cell hr rfl
 have kd:=EtR.row_free hr
 clear hwz hr
 go_wp2
 refine bodyPost_ret (v:=.tuple #[.agg #[.int .u16 0,.int .u8 0,.int .u8 0,.int .u32 0,.int .u32 0,.string ⟨#[]⟩],.int .i64 2]) (by simp [results,Tryz.results68,go_sem,q0,q1,q2,q3,q4,q5]) rfl ⟨rfl,?_⟩
 iterate 6 refine EtR.below_at ?_
 exact unhide HB

set_option maxHeartbeats 4000000 in
set_option maxRecDepth 10000 in
theorem ip_ttl (a0 a1 a2 a3 a4 a5 a6 a7 a8 a9 a10 a11 a12 a13 a14 a15 a16 a17 a18 a19:UInt8) (l:List UInt8) (w:World) (hl:l.length+20≤9223372036854775807) (h0:a0.toNat=69) (k:Nat) (hn:(256*(a2.toNat:Int)+(a3.toNat:Int))=20+(k:Int)) (hk:k≤l.length) (hsum:chk [a0,a1,a2,a3,a4,a5,a6,a7,a8,a9,a10,a11,a12,a13,a14,a15,a16,a17,a18,a19]=0) (hf:(256*(a6.toNat:Int)+(a7.toNat:Int))<32768) (ht:(a8.toNat:Int)=0) :
  Calls Tryz.prog 68 #[.string ⟨(a0::a1::a2::a3::a4::a5::a6::a7::a8::a9::a10::a11::a12::a13::a14::a15::a16::a17::a18::a19::l).toArray⟩] w fun ee w'=>ee=.returned (.tuple #[.agg #[.int .u16 0,.int .u8 0,.int .u8 0,.int .u32 0,.int .u32 0,.string ⟨#[]⟩],.int .i64 2])∧Below w.heap.size w w':=by
 obtain ⟨s,hS⟩:∃ s:ByteArray,s=⟨(a0::a1::a2::a3::a4::a5::a6::a7::a8::a9::a10::a11::a12::a13::a14::a15::a16::a17::a18::a19::l).toArray⟩:=⟨_,rfl⟩
 have hz:s.size=l.length+20:=by rw [hS,str_size]; simp
 have hmx:(s.size:Int)≤9223372036854775807:=by omega
 have k20:(20:Int)≤(s.size:Int):=by omega
 have k20':¬ (s.size:Int)<20:=by omega
 have k2:(2:Int)≤(s.size:Int):=by omega
 have k4:(4:Int)≤(s.size:Int):=by omega
 have k6:(6:Int)≤(s.size:Int):=by omega
 have k8:(8:Int)≤(s.size:Int):=by omega
 have k9:(9:Int)≤(s.size:Int):=by omega
 have k12:(12:Int)≤(s.size:Int):=by omega
 have k16:(16:Int)≤(s.size:Int):=by omega
 have O2:Hid (∀ u:World,Calls Tryz.prog 102 #[.string (s.extract 2 4)] u fun ee w'=>ee=.returned (.int .i64 (256*(a2.toNat:Int)+(a3.toNat:Int)))∧w'=u):=hide (fun u=>by
  have e1:s.extract 2 4=⟨#[a2,a3]⟩:=by rw [hS]; apply ByteArray.ext; rw [ByteArray.data_extract]; apply Array.ext'; simp
  rw [e1]
  have q:=of_any ⟨#[a2,a3]⟩ u (show 2≤4 by omega)
  rw [show ofL (⟨#[a2,a3]⟩:ByteArray).data.toList=(256*(a2.toNat:Int)+(a3.toNat:Int)) from by simp [ofL]] at q
  exact q)
 have O6:Hid (∀ u:World,Calls Tryz.prog 102 #[.string (s.extract 6 8)] u fun ee w'=>ee=.returned (.int .i64 (256*(a6.toNat:Int)+(a7.toNat:Int)))∧w'=u):=hide (fun u=>by
  have e1:s.extract 6 8=⟨#[a6,a7]⟩:=by rw [hS]; apply ByteArray.ext; rw [ByteArray.data_extract]; apply Array.ext'; simp
  rw [e1]
  have q:=of_any ⟨#[a6,a7]⟩ u (show 2≤4 by omega)
  rw [show ofL (⟨#[a6,a7]⟩:ByteArray).data.toList=(256*(a6.toNat:Int)+(a7.toNat:Int)) from by simp [ofL]] at q
  exact q)
 have i0:∀ u,(Instr.index 9 (.string s) (.int .i64 0)).run Tryz.prog u=.ok (.int .u8 a0.toNat) u:=fun _=>by rw [hS]; kernel_rfl
 have i8:∀ u,(Instr.index 9 (.string s) (.int .i64 8)).run Tryz.prog u=.ok (.int .u8 a8.toNat) u:=fun _=>by rw [hS]; kernel_rfl
 have p0:=a0.toNat_lt
 have p2:=a2.toNat_lt
 have p3:=a3.toNat_lt
 have p6:=a6.toNat_lt
 have p7:=a7.toNat_lt
 obtain ⟨x0,hx0⟩:∃ x,x=(a0.toNat:Int):=⟨_,rfl⟩
 obtain ⟨x6,hx6⟩:∃ x,x=(256*(a6.toNat:Int)+(a7.toNat:Int)):=⟨_,rfl⟩
 have y0:0≤x0:=by omega
 have y0':x0≤255:=by omega
 have y6:0≤x6:=by omega
 have y6':x6≤65535:=by omega
 have w0:IntKind.i64.wrap x0=x0:=wrap_i64 _ (by omega) (by omega)
 rw [← hx6] at O6
 rw [← hx0] at i0
 have t1:x0 / 16=4:=by omega
 have t2:x0 % 16=5:=by omega
 obtain ⟨m,hm⟩:∃ m:Nat,m=20+k:=⟨_,rfl⟩
 have hxm:(256*(a2.toNat:Int)+(a3.toNat:Int))=(m:Int):=by omega
 rw [hxm] at O2
 have m0:(20:Int)≤(m:Int):=by omega
 have m1:(m:Int)≤(s.size:Int):=by omega
 have d0:decide ((m:Int)<20)=false:=by simp; omega
 have d1:decide ((s.size:Int)<(m:Int))=false:=by simp; omega
 have TC:=(fun u=>Chk.ref_check (s.extract 0 20) u (by rw [ByteArray.size_extract]; omega))
 have ec:65535 - Chk.fold (Chk.wsum (s.extract 0 20).data.toList)=chk [a0,a1,a2,a3,a4,a5,a6,a7,a8,a9,a10,a11,a12,a13,a14,a15,a16,a17,a18,a19]:=by
  rw [hS,str_take]; simp [chk]
 obtain ⟨c,hc⟩:∃ c,c=chk [a0,a1,a2,a3,a4,a5,a6,a7,a8,a9,a10,a11,a12,a13,a14,a15,a16,a17,a18,a19]:=⟨_,rfl⟩
 rw [ec,← hc] at TC
 rw [← hc] at hsum
 have TC:=hide TC
 subst hsum
 have t4:x6<32768:=by omega
 have d4:decide (32768≤x6)=false:=by simp; omega
 obtain ⟨x8,hx8⟩:∃ x,x=(a8.toNat:Int):=⟨_,rfl⟩
 rw [← hx8] at i8 ht
 subst ht
 rw [← hS]
 clear hS hz hx0 hx6 p0 p2 p3 p6 p7 hl hxm hm ec hc hn hk hx8 h0 hf
 go_enter Tryz.func68,Tryz.ntmps68
 go_wp2_with fail
 refine (unhide O2 _).mono ?_
 rintro ee wz ⟨rfl,hwz⟩
 rw [hwz]
 clear hwz wz
 go_wp2_with fail
 refine (unhide O6 _).mono ?_
 rintro ee wz ⟨rfl,hwz⟩
 rw [hwz]
 clear hwz wz
 go_wp2_with fail
 refine (unhide TC _).mono ?_
 rintro ee wz ⟨rfl,nn,hwz⟩
 have hr:wz.heap[w.heap.size]?=some (.cells #[.int .u16 0,.int .u8 0,.int .u8 0,.int .u32 0,.int .u32 0,.string ⟨#[]⟩] 120 (0,0)):=by rw [hwz]; exact heap_alloc_new w _
 have HB:Hid (Below w.heap.size w wz):=hide (by rw [hwz]; exact below_drewN ((Below.refl _ _).alloc (Nat.le_refl _) _) _)
 have q0:wz.cell? ⟨w.heap.size,0,none⟩=some (.int .u16 0):=EtR.row_cell hr rfl
 have q1:wz.cell? ⟨w.heap.size,1,none⟩=some (.int .u8 0):=EtR.row_cell hr rfl
 have q2:wz.cell? ⟨w.heap.size,2,none⟩=some (.int .u8 0):=EtR.row_cell hr rfl
 have q3:wz.cell? ⟨w.heap.size,3,none⟩=some (.int .u32 0):=EtR.row_cell hr rfl
 have q4:wz.cell? ⟨w.heap.size,4,none⟩=some (.int .u32 0):=EtR.row_cell hr rfl
 have q5:wz.cell? ⟨w.heap.size,5,none⟩=some (.string ⟨#[]⟩):=EtR.row_cell hr rfl
 have kd:=EtR.row_free hr
 clear hwz hr
 go_wp2
 refine bodyPost_ret (v:=.tuple #[.agg #[.int .u16 0,.int .u8 0,.int .u8 0,.int .u32 0,.int .u32 0,.string ⟨#[]⟩],.int .i64 2]) (by simp [results,Tryz.results68,go_sem,q0,q1,q2,q3,q4,q5]) rfl ⟨rfl,?_⟩
 iterate 6 refine EtR.below_at ?_
 exact unhide HB

set_option maxHeartbeats 4000000 in
set_option maxRecDepth 10000 in
theorem ip_frag (a0 a1 a2 a3 a4 a5 a6 a7 a8 a9 a10 a11 a12 a13 a14 a15 a16 a17 a18 a19:UInt8) (l:List UInt8) (w:World) (hl:l.length+20≤9223372036854775807) (h0:a0.toNat=69) (k:Nat) (hn:(256*(a2.toNat:Int)+(a3.toNat:Int))=20+(k:Int)) (hk:k≤l.length) (hsum:chk [a0,a1,a2,a3,a4,a5,a6,a7,a8,a9,a10,a11,a12,a13,a14,a15,a16,a17,a18,a19]=0) (hf:(256*(a6.toNat:Int)+(a7.toNat:Int))<32768) (ht:(a8.toNat:Int)≠0) (hp:(256*(a6.toNat:Int)+(a7.toNat:Int)) % 16384≠0) :
  Calls Tryz.prog 68 #[.string ⟨(a0::a1::a2::a3::a4::a5::a6::a7::a8::a9::a10::a11::a12::a13::a14::a15::a16::a17::a18::a19::l).toArray⟩] w fun ee w'=>ee=.returned (.tuple #[.agg #[.int .u16 0,.int .u8 0,.int .u8 0,.int .u32 0,.int .u32 0,.string ⟨#[]⟩],.int .i64 5])∧Below w.heap.size w w':=by
 obtain ⟨s,hS⟩:∃ s:ByteArray,s=⟨(a0::a1::a2::a3::a4::a5::a6::a7::a8::a9::a10::a11::a12::a13::a14::a15::a16::a17::a18::a19::l).toArray⟩:=⟨_,rfl⟩
 have hz:s.size=l.length+20:=by rw [hS,str_size]; simp
 have hmx:(s.size:Int)≤9223372036854775807:=by omega
 have k20:(20:Int)≤(s.size:Int):=by omega
 have k20':¬ (s.size:Int)<20:=by omega
 have k2:(2:Int)≤(s.size:Int):=by omega
 have k4:(4:Int)≤(s.size:Int):=by omega
 have k6:(6:Int)≤(s.size:Int):=by omega
 have k8:(8:Int)≤(s.size:Int):=by omega
 have k9:(9:Int)≤(s.size:Int):=by omega
 have k12:(12:Int)≤(s.size:Int):=by omega
 have k16:(16:Int)≤(s.size:Int):=by omega
 have O2:Hid (∀ u:World,Calls Tryz.prog 102 #[.string (s.extract 2 4)] u fun ee w'=>ee=.returned (.int .i64 (256*(a2.toNat:Int)+(a3.toNat:Int)))∧w'=u):=hide (fun u=>by
  have e1:s.extract 2 4=⟨#[a2,a3]⟩:=by rw [hS]; apply ByteArray.ext; rw [ByteArray.data_extract]; apply Array.ext'; simp
  rw [e1]
  have q:=of_any ⟨#[a2,a3]⟩ u (show 2≤4 by omega)
  rw [show ofL (⟨#[a2,a3]⟩:ByteArray).data.toList=(256*(a2.toNat:Int)+(a3.toNat:Int)) from by simp [ofL]] at q
  exact q)
 have O6:Hid (∀ u:World,Calls Tryz.prog 102 #[.string (s.extract 6 8)] u fun ee w'=>ee=.returned (.int .i64 (256*(a6.toNat:Int)+(a7.toNat:Int)))∧w'=u):=hide (fun u=>by
  have e1:s.extract 6 8=⟨#[a6,a7]⟩:=by rw [hS]; apply ByteArray.ext; rw [ByteArray.data_extract]; apply Array.ext'; simp
  rw [e1]
  have q:=of_any ⟨#[a6,a7]⟩ u (show 2≤4 by omega)
  rw [show ofL (⟨#[a6,a7]⟩:ByteArray).data.toList=(256*(a6.toNat:Int)+(a7.toNat:Int)) from by simp [ofL]] at q
  exact q)
 have i0:∀ u,(Instr.index 9 (.string s) (.int .i64 0)).run Tryz.prog u=.ok (.int .u8 a0.toNat) u:=fun _=>by rw [hS]; kernel_rfl
 have i8:∀ u,(Instr.index 9 (.string s) (.int .i64 8)).run Tryz.prog u=.ok (.int .u8 a8.toNat) u:=fun _=>by rw [hS]; kernel_rfl
 have p0:=a0.toNat_lt
 have p2:=a2.toNat_lt
 have p3:=a3.toNat_lt
 have p6:=a6.toNat_lt
 have p7:=a7.toNat_lt
 obtain ⟨x0,hx0⟩:∃ x,x=(a0.toNat:Int):=⟨_,rfl⟩
 obtain ⟨x6,hx6⟩:∃ x,x=(256*(a6.toNat:Int)+(a7.toNat:Int)):=⟨_,rfl⟩
 have y0:0≤x0:=by omega
 have y0':x0≤255:=by omega
 have y6:0≤x6:=by omega
 have y6':x6≤65535:=by omega
 have w0:IntKind.i64.wrap x0=x0:=wrap_i64 _ (by omega) (by omega)
 rw [← hx6] at O6
 rw [← hx0] at i0
 have t1:x0 / 16=4:=by omega
 have t2:x0 % 16=5:=by omega
 obtain ⟨m,hm⟩:∃ m:Nat,m=20+k:=⟨_,rfl⟩
 have hxm:(256*(a2.toNat:Int)+(a3.toNat:Int))=(m:Int):=by omega
 rw [hxm] at O2
 have m0:(20:Int)≤(m:Int):=by omega
 have m1:(m:Int)≤(s.size:Int):=by omega
 have d0:decide ((m:Int)<20)=false:=by simp; omega
 have d1:decide ((s.size:Int)<(m:Int))=false:=by simp; omega
 have TC:=(fun u=>Chk.ref_check (s.extract 0 20) u (by rw [ByteArray.size_extract]; omega))
 have ec:65535 - Chk.fold (Chk.wsum (s.extract 0 20).data.toList)=chk [a0,a1,a2,a3,a4,a5,a6,a7,a8,a9,a10,a11,a12,a13,a14,a15,a16,a17,a18,a19]:=by
  rw [hS,str_take]; simp [chk]
 obtain ⟨c,hc⟩:∃ c,c=chk [a0,a1,a2,a3,a4,a5,a6,a7,a8,a9,a10,a11,a12,a13,a14,a15,a16,a17,a18,a19]:=⟨_,rfl⟩
 rw [ec,← hc] at TC
 rw [← hc] at hsum
 have TC:=hide TC
 subst hsum
 have t4:x6<32768:=by omega
 have d4:decide (32768≤x6)=false:=by simp; omega
 obtain ⟨x8,hx8⟩:∃ x,x=(a8.toNat:Int):=⟨_,rfl⟩
 rw [← hx8] at i8 ht
 have t5:(x8==0)=false:=by simpa using ht
 have t6:¬ x6 % 16384=0:=by omega
 have t7:(x6 % 16384==0)=false:=by simp; omega
 rw [← hS]
 clear hS hz hx0 hx6 p0 p2 p3 p6 p7 hl hxm hm ec hc hn hk hx8 h0 hf
 go_enter Tryz.func68,Tryz.ntmps68
 go_wp2_with fail
 refine (unhide O2 _).mono ?_
 rintro ee wz ⟨rfl,hwz⟩
 rw [hwz]
 clear hwz wz
 go_wp2_with fail
 refine (unhide O6 _).mono ?_
 rintro ee wz ⟨rfl,hwz⟩
 rw [hwz]
 clear hwz wz
 go_wp2_with fail
 refine (unhide TC _).mono ?_
 rintro ee wz ⟨rfl,nn,hwz⟩
 have hr:wz.heap[w.heap.size]?=some (.cells #[.int .u16 0,.int .u8 0,.int .u8 0,.int .u32 0,.int .u32 0,.string ⟨#[]⟩] 120 (0,0)):=by rw [hwz]; exact heap_alloc_new w _
 have HB:Hid (Below w.heap.size w wz):=hide (by rw [hwz]; exact below_drewN ((Below.refl _ _).alloc (Nat.le_refl _) _) _)
 have q0:wz.cell? ⟨w.heap.size,0,none⟩=some (.int .u16 0):=EtR.row_cell hr rfl
 have q1:wz.cell? ⟨w.heap.size,1,none⟩=some (.int .u8 0):=EtR.row_cell hr rfl
 have q2:wz.cell? ⟨w.heap.size,2,none⟩=some (.int .u8 0):=EtR.row_cell hr rfl
 have q3:wz.cell? ⟨w.heap.size,3,none⟩=some (.int .u32 0):=EtR.row_cell hr rfl
 have q4:wz.cell? ⟨w.heap.size,4,none⟩=some (.int .u32 0):=EtR.row_cell hr rfl
 have q5:wz.cell? ⟨w.heap.size,5,none⟩=some (.string ⟨#[]⟩):=EtR.row_cell hr rfl
 have kd:=EtR.row_free hr
 clear hwz hr
 go_wp2
 refine bodyPost_ret (v:=.tuple #[.agg #[.int .u16 0,.int .u8 0,.int .u8 0,.int .u32 0,.int .u32 0,.string ⟨#[]⟩],.int .i64 5]) (by simp [results,Tryz.results68,go_sem,q0,q1,q2,q3,q4,q5]) rfl ⟨rfl,?_⟩
 iterate 6 refine EtR.below_at ?_
 exact unhide HB
end Go.Proofs.YtbhbbeebncmaiaaGreatDoor.Rr
namespace Go.Proofs.YtbhbbeebncmaiaaGreatDoor.IpQ
open Go.ChangeShapes Go.WideShapes Go.ChangeAt Go.RowKit Bs Rd IpK
open Ip (chk)
set_option linter.unusedVariables false
theorem ref_any (s:ByteArray) (L:List UInt8) (hL:s.data.toList=L) (w:World) (hm:s.size≤262144) :
  Calls Tryz.prog 68 #[.string s] w fun ee w'=>ee=.returned (.tuple #[.agg #[.int .u16 (ipF L (w2 L 4)),.int .u8 (ipF L (bt L 8)),.int .u8 (ipF L (bt L 9)),.int .u32 (ipF L (w4 L 12)),.int .u32 (ipF L (w4 L 16)),.string (ipLd L)],.int .i64 (ipK L)])∧Below w.heap.size w w':=by
 have hl:=len_str s
 rw [hL] at hl
 have E:∀ k,ipK L=k→k≠0→(∀ u:World,Calls Tryz.prog 68 #[.string s] u fun ee w'=>ee=.returned (.tuple #[.agg #[.int .u16 0,.int .u8 0,.int .u8 0,.int .u32 0,.int .u32 0,.string ⟨#[]⟩],.int .i64 k])∧Below u.heap.size u w') →
   Calls Tryz.prog 68 #[.string s] w fun ee w'=>ee=.returned (.tuple #[.agg #[.int .u16 (ipF L (w2 L 4)),.int .u8 (ipF L (bt L 8)),.int .u8 (ipF L (bt L 9)),.int .u32 (ipF L (w4 L 12)),.int .u32 (ipF L (w4 L 16)),.string (ipLd L)],.int .i64 (ipK L)])∧Below w.heap.size w w':=by
  intro k h0 h1 h2
  rw [ipF_err h0 h1,ipF_err h0 h1,ipF_err h0 h1,ipF_err h0 h1,ipF_err h0 h1,ipLd_err h0 h1,h0]
  exact h2 w
 by_cases hn:L.length<20
 ·exact E 1 (by unfold ipK; rw [if_pos hn]) (by decide) (fun u=>Rr.ip_short s u (by omega))
 ·obtain ⟨a0,a1,a2,a3,a4,a5,a6,a7,a8,a9,a10,a11,a12,a13,a14,a15,a16,a17,a18,a19,r,hlist⟩:=twenty L (by omega)
  have heta:=str_eta s
  rw [hL] at heta
  have b0:bt L 0=(a0.toNat:Int):=by rw [hlist]; rfl
  have b2:w2 L 2=(256*(a2.toNat:Int)+(a3.toNat:Int)):=by rw [hlist]; rfl
  have b6:w2 L 6=(256*(a6.toNat:Int)+(a7.toNat:Int)):=by rw [hlist]; rfl
  have b8:bt L 8=(a8.toNat:Int):=by rw [hlist]; rfl
  have tk:L.take 20=[a0,a1,a2,a3,a4,a5,a6,a7,a8,a9,a10,a11,a12,a13,a14,a15,a16,a17,a18,a19]:=by rw [hlist]; rfl
  have dr:L.drop 20=r:=by rw [hlist]; rfl
  have ln:L.length=r.length+20:=by rw [hlist]; simp
  have hml:(a0::a1::a2::a3::a4::a5::a6::a7::a8::a9::a10::a11::a12::a13::a14::a15::a16::a17::a18::a19::r).length≤maxLen:=by rw [← hlist]; unfold maxLen; omega
  have p0:=a0.toNat_lt
  have hK:ipK L=if bt L 0 / 16≠4∨bt L 0 % 16<5 then 2 else if 5<bt L 0 % 16 then 4
    else if w2 L 2<20 then 2 else if ((L.length:Nat):Int)<w2 L 2 then 1 else if chk (L.take 20)≠0 then 6
    else if 32768≤w2 L 6∨bt L 8=0 then 2 else if w2 L 6 % 16384≠0 then 5 else 0:=by unfold ipK; rw [if_neg hn]
  rw [b0,b2,b6,b8,tk,ln] at hK
  by_cases h1:a0.toNat / 16=4
  ·by_cases h2:a0.toNat % 16<5
   ·rw [if_pos (by omega)] at hK
    exact E 2 hK (by decide) (fun u=>(by have hrl:r.length+20≤9223372036854775807:=(by omega); rw [← heta,hlist]; exact Rr.ip_few a0 a1 a2 a3 a4 a5 a6 a7 a8 a9 a10 a11 a12 a13 a14 a15 a16 a17 a18 a19 r u hrl h1 h2))
   ·rw [if_neg (by omega)] at hK
    by_cases h3:5<a0.toNat % 16
    ·rw [if_pos (by omega)] at hK
     exact E 4 hK (by decide) (fun u=>(by have hrl:r.length+20≤9223372036854775807:=(by omega); rw [← heta,hlist]; exact Rr.ip_opt a0 a1 a2 a3 a4 a5 a6 a7 a8 a9 a10 a11 a12 a13 a14 a15 a16 a17 a18 a19 r u hrl h1 h3))
    ·have h69:a0.toNat=69:=by omega
     rw [if_neg (by omega)] at hK
     by_cases h4:(256*(a2.toNat:Int)+(a3.toNat:Int))<20
     ·rw [if_pos h4] at hK
      exact E 2 hK (by decide) (fun u=>(by have hrl:r.length+20≤9223372036854775807:=(by omega); rw [← heta,hlist]; exact Rr.ip_lenf a0 a1 a2 a3 a4 a5 a6 a7 a8 a9 a10 a11 a12 a13 a14 a15 a16 a17 a18 a19 r u hrl h69 (by omega)))
     ·rw [if_neg h4] at hK
      by_cases h5:((r.length+20:Nat):Int)<(256*(a2.toNat:Int)+(a3.toNat:Int))
      ·rw [if_pos h5] at hK
       exact E 1 hK (by decide) (fun u=>(by have hrl:r.length+20≤9223372036854775807:=(by omega); rw [← heta,hlist]; exact Rr.ip_lens a0 a1 a2 a3 a4 a5 a6 a7 a8 a9 a10 a11 a12 a13 a14 a15 a16 a17 a18 a19 r u hrl h69 (by omega) (by omega)))
      ·rw [if_neg h5] at hK
       obtain ⟨k,hk⟩:∃ k:Nat,(256*(a2.toNat:Int)+(a3.toNat:Int))=20+(k:Int):=⟨((256*(a2.toNat:Int)+(a3.toNat:Int)) - 20).toNat,by omega⟩
       have hkr:k≤r.length:=by omega
       by_cases h6:chk [a0,a1,a2,a3,a4,a5,a6,a7,a8,a9,a10,a11,a12,a13,a14,a15,a16,a17,a18,a19]=0
       ·rw [if_neg (fun q=>q h6)] at hK
        by_cases h7:32768≤(256*(a6.toNat:Int)+(a7.toNat:Int))
        ·rw [if_pos (Or.inl h7)] at hK
         exact E 2 hK (by decide) (fun u=>(by have hrl:r.length+20≤9223372036854775807:=(by omega); rw [← heta,hlist]; exact Rr.ip_flag a0 a1 a2 a3 a4 a5 a6 a7 a8 a9 a10 a11 a12 a13 a14 a15 a16 a17 a18 a19 r u hrl h69 k hk hkr h6 h7))
        ·by_cases h8:(a8.toNat:Int)=0
         ·rw [if_pos (Or.inr h8)] at hK
          exact E 2 hK (by decide) (fun u=>(by have hrl:r.length+20≤9223372036854775807:=(by omega); rw [← heta,hlist]; exact Rr.ip_ttl a0 a1 a2 a3 a4 a5 a6 a7 a8 a9 a10 a11 a12 a13 a14 a15 a16 a17 a18 a19 r u hrl h69 k hk hkr h6 (by omega) h8))
         ·rw [if_neg (by omega)] at hK
          by_cases h9:(256*(a6.toNat:Int)+(a7.toNat:Int)) % 16384=0
          ·rw [if_neg (fun q=>q h9)] at hK
           have e5:ipLd L=⟨(r.take k).toArray⟩:=by rw [ipLd_ok hK,dr,b2,hk]; congr 3; omega
           rw [ipF_ok hK,ipF_ok hK,ipF_ok hK,ipF_ok hK,ipF_ok hK,e5,hK]
           have b4:w2 L 4=(256*(a4.toNat:Int)+(a5.toNat:Int)):=by rw [hlist]; rfl
           have b9:bt L 9=(a9.toNat:Int):=by rw [hlist]; rfl
           have b12:w4 L 12=(16777216*(a12.toNat:Int)+65536*(a13.toNat:Int)+256*(a14.toNat:Int)+(a15.toNat:Int)):=by rw [hlist]; rfl
           have b16:w4 L 16=(16777216*(a16.toNat:Int)+65536*(a17.toNat:Int)+256*(a18.toNat:Int)+(a19.toNat:Int)):=by rw [hlist]; rfl
           rw [b4,b8,b9,b12,b16]
           have hrl:r.length+20≤9223372036854775807:=by omega
           rw [← heta,hlist]
           exact Rr.ip_ok a0 a1 a2 a3 a4 a5 a6 a7 a8 a9 a10 a11 a12 a13 a14 a15 a16 a17 a18 a19 r w hrl h69 k hk hkr h6 (by omega) h8 h9
          ·rw [if_pos h9] at hK
           exact E 5 hK (by decide) (fun u=>(by have hrl:r.length+20≤9223372036854775807:=(by omega); rw [← heta,hlist]; exact Rr.ip_frag a0 a1 a2 a3 a4 a5 a6 a7 a8 a9 a10 a11 a12 a13 a14 a15 a16 a17 a18 a19 r u hrl h69 k hk hkr h6 (by omega) h8 h9))
       ·rw [if_pos h6] at hK
        exact E 6 hK (by decide) (fun u=>(by have hrl:r.length+20≤9223372036854775807:=(by omega); rw [← heta,hlist]; exact Rr.ip_sum a0 a1 a2 a3 a4 a5 a6 a7 a8 a9 a10 a11 a12 a13 a14 a15 a16 a17 a18 a19 r u hrl h69 k hk hkr h6))
  ·rw [if_pos (by omega)] at hK
   exact E 2 hK (by decide) (fun u=>(by have hrl:r.length+20≤9223372036854775807:=(by omega); rw [← heta,hlist]; exact Rr.ip_ver a0 a1 a2 a3 a4 a5 a6 a7 a8 a9 a10 a11 a12 a13 a14 a15 a16 a17 a18 a19 r u hrl h1))
end Go.Proofs.YtbhbbeebncmaiaaGreatDoor.IpQ
