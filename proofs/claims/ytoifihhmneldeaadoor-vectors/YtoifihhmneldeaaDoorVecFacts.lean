import Derived.Test.YtoifihhmneldeaaDoorVecTab
import Derived.Test.YtoifihhmneldeaaDoorVecBytes
import Derived.Test.YtoifihhmneldeaaDoorCheckRef
import Derived.Test.YtoifihhmneldeaaDoorIPRi
import Derived.Test.YtoifihhmneldeaaDoorIPWriteW
import Derived.Test.YtoifihhmneldeaaDoorARPWriteR
import Derived.Test.YtoifihhmneldeaaDoorEtherW
import Derived.Test.YtoifihhmneldeaaDoorStructSameI
namespace Go.Proofs.YtoifihhmneldeaaDoor.Kp
open Go.ChangeShapes Go.WideShapes Go.ChangeAt Go.RowKit Bs
open Hs (RG kN)
set_option linter.unusedVariables false
set_option linter.unusedSimpArgs false

def xHead : List UInt8 := [52, 53, 32, 48, 48, 32, 48, 48, 32, 55, 51, 32, 48, 48, 32, 48, 48, 32, 52, 48, 32, 48, 48, 32, 52, 48, 32, 49, 49, 32, 98, 56, 32, 54, 49, 32, 99, 48, 32, 97, 56, 32, 48, 48, 32, 48, 49, 32, 99, 48, 32, 97, 56, 32, 48, 48, 32, 99, 55]
def xCk : List UInt8 := [48, 48, 32, 48, 49, 32, 102, 50, 32, 48, 51, 32, 102, 52, 32, 102, 53, 32, 102, 54, 32, 102, 55]
def xArp : List UInt8 := [48, 48, 32, 48, 49, 32, 48, 56, 32, 48, 48, 32, 48, 54, 32, 48, 52, 32, 48, 48, 32, 48, 49, 32, 48, 50, 32, 48, 48, 32, 48, 48, 32, 48, 48, 32, 48, 48, 32, 50, 97, 32, 48, 97, 32, 48, 48, 32, 48, 48, 32, 51, 55, 32, 48, 48, 32, 48, 48, 32, 48, 48, 32, 48, 48, 32, 48, 48, 32, 48, 48, 32, 48, 97, 32, 48, 48, 32, 48, 48, 32, 48, 49]
def xEth : List UInt8 := [48, 50, 32, 48, 48, 32, 48, 48, 32, 48, 48, 32, 48, 48, 32, 48, 55, 32, 48, 50, 32, 48, 48, 32, 48, 48, 32, 48, 48, 32, 48, 48, 32, 50, 97, 32, 48, 56, 32, 48, 54]
def xBeh : List UInt8 := [98, 101, 104, 105, 110, 100]
def lIP : List UInt8 := hexL xHead ++ bytesL 95 1 ++ xBeh
theorem ck_a : 65535 - Chk.fold (Chk.wsum (hexL xCk)) = 8717 := by decide +kernel
theorem ck_b : 65535 - Chk.fold (Chk.wsum []) = 65535 := by decide +kernel
theorem ck_c : 65535 - Chk.fold (Chk.wsum [1]) = 65279 := by decide +kernel
theorem ck_d : 65535 - Chk.fold (Chk.wsum [255, 255]) = 0 := by decide +kernel
theorem ip_k : IpK.ipK lIP = 0 := by decide +kernel
theorem ip_0 : IpK.w2 lIP 4 = 0 := by decide +kernel
theorem ip_1 : IpK.bt lIP 8 = 64 := by decide +kernel
theorem ip_2 : IpK.bt lIP 9 = 17 := by decide +kernel
theorem ip_3 : IpK.w4 lIP 12 = 3232235521 := by decide +kernel
theorem ip_4 : IpK.w4 lIP 16 = 3232235719 := by decide +kernel
theorem ip_5 : (lIP.drop 20).take ((IpK.w2 lIP 2).toNat - 20) = bytesL 95 1 := by decide +kernel
theorem wr_ip : Ip.ipL 0 64 17 3232235521 3232235719 ⟨(bytesL 95 1).toArray⟩ = hexL xHead ++ bytesL 95 1 := by decide +kernel
theorem wr_arp : Arp.arpL 1 [2, 0, 0, 0, 0, 42] 167772215 [0, 0, 0, 0, 0, 0] 167772161 = hexL xArp := by decide +kernel
theorem wr_eth : Eth.ethL [2, 0, 0, 0, 0, 7, 2, 0, 0, 0, 0, 42] 2054 ⟨(hexL xArp).toArray⟩ = hexL xEth ++ hexL xArp ++ List.replicate 18 0 := by decide +kernel
theorem len_head : (hexL xHead).length = 20 := by decide +kernel
theorem len_arp : (hexL xArp).length = 28 := by decide +kernel
theorem len_eth : (hexL xEth).length = 14 := by decide +kernel

theorem hexAt (l : List UInt8) (hl : l.length ≤ 1048576) (o : ByteArray) (ho : o = ⟨(hexL l).toArray⟩) (u : World) :
    Calls Tryd.prog 8 #[.string ⟨l.toArray⟩] u fun e w' => e = .returned (.string o) ∧ Below u.heap.size u w' := by
  rw [ho]; exact hex_any ⟨l.toArray⟩ l u rfl hl
theorem hashAt (m x : List UInt8) (hm : m.length ≤ 1048576) (h : Hs.shaL kN m = hexL x) (o : ByteArray) (ho : o = ⟨(hexL x).toArray⟩) (u : World) (hG : RG u 2 kN) :
    Calls Tryd.prog 5 #[.string ⟨m.toArray⟩] u fun e w' => e = .returned (.string o) ∧ Below u.heap.size u w' := by
  rw [ho, ← h]; exact Hs.hash_any ⟨m.toArray⟩ m kN u rfl hm hG Hs.kN_lt
theorem checkAt (l : List UInt8) (hl : l.length ≤ 1048576) (n : Int) (hn : 65535 - Chk.fold (Chk.wsum l) = n) (u : World) :
    Calls Tryd.prog 9 #[.string ⟨l.toArray⟩] u fun e w' => e = .returned (.int .u16 n) ∧ w' = u := by
  have q := Chk.boot_check ⟨l.toArray⟩ u (by rw [str_size]; omega)
  rw [← hn]; exact q
theorem readAt (u : World) : Calls Tryd.prog 10 #[.string ⟨lIP.toArray⟩] u fun e w' => e = .returned (.tuple #[.agg #[.int .u16 0, .int .u8 64, .int .u8 17, .int .u32 3232235521, .int .u32 3232235719, .string ⟨(bytesL 95 1).toArray⟩], .int .i64 0]) ∧ Below u.heap.size u w' := by
  have q := IpR.code_any ⟨lIP.toArray⟩ lIP rfl u (by rw [str_size]; decide +kernel)
  rw [IpK.ipF_ok ip_k, IpK.ipF_ok ip_k, IpK.ipF_ok ip_k, IpK.ipF_ok ip_k, IpK.ipF_ok ip_k, IpK.ipLd_ok ip_k, ip_k, ip_0, ip_1, ip_2, ip_3, ip_4, ip_5] at q
  exact q
theorem writeAt (u : World) : Calls Tryd.prog 12 #[.agg #[.int .u16 0, .int .u8 64, .int .u8 17, .int .u32 3232235521, .int .u32 3232235719, .string ⟨(bytesL 95 1).toArray⟩]] u fun e w' => e = .returned (.tuple #[.string ⟨(hexL xHead ++ bytesL 95 1).toArray⟩, .int .i64 0]) ∧ Below u.heap.size u w' := by
  have q := Ip.boot_any 0 64 17 3232235521 3232235719 ⟨(bytesL 95 1).toArray⟩ u (by omega) (by omega) (by omega) (by omega) (by omega) (by rw [str_size, bytesL_length]; omega)
  unfold Ip.ipS Ip.ipE at q
  rw [if_neg (by decide), if_pos (by rw [str_size, bytesL_length]; omega), if_neg (by decide), if_pos (by rw [str_size, bytesL_length]; omega), wr_ip] at q
  exact q
theorem arpAt (u : World) : Calls Tryd.prog 13 #[.agg #[.int .u16 1, .int .u8 2, .int .u8 0, .int .u8 0, .int .u8 0, .int .u8 0, .int .u8 42, .int .u32 167772215, .int .u8 0, .int .u8 0, .int .u8 0, .int .u8 0, .int .u8 0, .int .u8 0, .int .u32 167772161]] u fun e w' => e = .returned (.tuple #[.string ⟨(hexL xArp).toArray⟩, .int .i64 0]) ∧ Below u.heap.size u w' := by
  have q := Arp.boot_any 1 2 0 0 0 0 42 167772215 0 0 0 0 0 0 167772161 u (by omega) (by omega) (by omega) (by omega) (by omega) (by omega)
  unfold Arp.arpS Arp.arpE at q
  rw [if_pos (by decide), if_pos (by decide), wr_arp] at q
  exact q
theorem ethAt (u : World) : Calls Tryd.prog 14 #[.agg #[.int .u8 2, .int .u8 0, .int .u8 0, .int .u8 0, .int .u8 0, .int .u8 7, .int .u8 2, .int .u8 0, .int .u8 0, .int .u8 0, .int .u8 0, .int .u8 42, .int .u16 2054, .string ⟨(hexL xArp).toArray⟩]] u fun e w' => e = .returned (.tuple #[.string ⟨(hexL xEth ++ hexL xArp ++ List.replicate 18 0).toArray⟩, .int .i64 0]) ∧ Below u.heap.size u w' := by
  have q := Eth.boot_any 2 0 0 0 0 7 2 0 0 0 0 42 2054 ⟨(hexL xArp).toArray⟩ u (by omega) (by omega) (by rw [str_size, len_arp]; omega)
  have h1 : Eth.okTy 2054 = true := by decide
  have h2 : Eth.okLoad ⟨(hexL xArp).toArray⟩ = true := by unfold Eth.okLoad; rw [str_size, len_arp]; decide
  unfold Eth.ethS Eth.ethE at q
  rw [h1, h2] at q
  simp only [Bool.and_self, if_true] at q
  rw [wr_eth] at q
  exact q
end Go.Proofs.YtoifihhmneldeaaDoor.Kp
