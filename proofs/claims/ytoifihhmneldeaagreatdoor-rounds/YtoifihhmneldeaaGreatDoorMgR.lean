import Derived.Test.YtoifihhmneldeaaGreatDoorMgS
import Derived.Test.YtoifihhmneldeaaGreatDoorEtherRi
import Derived.Test.YtoifihhmneldeaaGreatDoorMgA
import Derived.Test.YtoifihhmneldeaaGreatDoorMgI
import Derived.Test.YtoifihhmneldeaaGreatDoorMgU
import Derived.Test.YtoifihhmneldeaaGreatDoorStructSameI
import Derived.Test.YtoifihhmneldeaaGreatDoorCheckRef
namespace Go.Proofs.YtoifihhmneldeaaGreatDoor.Rn
open Go.ChangeShapes Go.WideShapes Go.ChangeAt Go.RowKit Bs Rd
set_option linter.unusedVariables false
set_option linter.unusedSimpArgs false

theorem str_size (a : List UInt8) : (⟨a.toArray⟩ : ByteArray).size = a.length := by simp [ByteArray.size]
theorem add_str (a b : List UInt8) : (⟨a.toArray⟩ : ByteArray) ++ (⟨b.toArray⟩ : ByteArray) = ⟨(a ++ b).toArray⟩ := by
  apply ByteArray.ext
  simp [ByteArray.data_append]
theorem equal_of {t : TypeId} {xs ys : Array Value} {w : World} (h : (binOp .eql t (.agg xs) (.agg ys)).run Tryz.prog w = .ok (.bool true) w) : (Op.equalIn 10000 t (.agg xs) (.agg ys)).run Tryz.prog w = .ok true w := by
  rw [run_eql_struct] at h
  generalize (Op.equalIn 10000 t (.agg xs) (.agg ys)).run Tryz.prog w = r at h
  cases r with
  | ok b w' =>
    simp only [Result.andThen_ok, Result.ok.injEq, Value.bool.injEq] at h
    obtain ⟨rfl, rfl⟩ := h
    rfl
  | _ => simp [Result.andThen] at h
theorem mac_same (a0 a1 a2 a3 a4 a5 : Int) (u : World) : (Op.equalIn 10000 23 (.agg #[.int .u8 a0, .int .u8 a1, .int .u8 a2, .int .u8 a3, .int .u8 a4, .int .u8 a5]) (.agg #[.int .u8 a0, .int .u8 a1, .int .u8 a2, .int .u8 a3, .int .u8 a4, .int .u8 a5])).run Tryz.prog u = .ok true u := Sq.eql_mac 9998 a0 a1 a2 a3 a4 a5 u
/-- the frame's cards -/
def mE : List UInt8 := [2, 0, 0, 0, 0, 7, 2, 0, 0, 0, 0, 42]
def fillE (ty : Int) (load : ByteArray) : List UInt8 := List.replicate (60 - (mE ++ word8 ty ++ load.data.toList).length) 0
theorem ethL_eq (ty : Int) (load : ByteArray) : Eth.ethL mE ty load = 2 :: 0 :: 0 :: 0 :: 0 :: 7 :: 2 :: 0 :: 0 :: 0 :: 0 :: 42 :: by8 (ty / 256) :: by8 ty :: (load.data.toList ++ fillE ty load) := by
  unfold Eth.ethL fillE
  simp [mE, word8]
theorem ethL_len (ty : Int) (load : ByteArray) : 60 ≤ (Eth.ethL mE ty load).length ∧ load.size ≤ (load.data.toList ++ fillE ty load).length ∧ (load.data.toList ++ fillE ty load).length ≤ load.size + 60 := by
  have hl := len_str load
  rw [ethL_eq]
  simp only [List.length_cons, List.length_append, fillE, List.length_replicate, mE, word8, hl]
  simp only [List.length_nil]
  omega
theorem wEther (ty : Int) (load s : ByteArray) (h0 : 1536 ≤ ty) (h1 : ty ≤ 65535) (hl : load.size ≤ 1000) (hs : s = ⟨(Eth.ethL mE ty load).toArray⟩) (u : World) :
    Calls Tryz.prog 5 #[.agg #[.int .u8 2, .int .u8 0, .int .u8 0, .int .u8 0, .int .u8 0, .int .u8 7, .int .u8 2, .int .u8 0, .int .u8 0, .int .u8 0, .int .u8 0, .int .u8 42, .int .u16 ty, .string load]] u fun e w' => e = .returned (.tuple #[.string s, .int .i64 0]) ∧ Below u.heap.size u w' := by
  have q := Eth.boot_any 2 0 0 0 0 7 2 0 0 0 0 42 ty load u (by omega) h1 (by omega)
  have k1 : Eth.okTy ty = true := by unfold Eth.okTy; simpa using h0
  have k2 : Eth.okLoad load = true := by unfold Eth.okLoad; simp; omega
  unfold Eth.ethS Eth.ethE at q
  rw [k1, k2] at q
  simp only [Bool.and_self, if_true] at q
  rw [hs]
  exact q
theorem rEther (ty : Int) (load s y : ByteArray) (h0 : 1536 ≤ ty) (h1 : ty ≤ 65535) (hl : load.size ≤ 1000) (hs : s = ⟨(Eth.ethL mE ty load).toArray⟩) (hy : y = ⟨(load.data.toList ++ fillE ty load).toArray⟩) (u : World) :
    Calls Tryz.prog 6 #[.string s] u fun e w' => e = .returned (.tuple #[.agg #[.int .u8 2, .int .u8 0, .int .u8 0, .int .u8 0, .int .u8 0, .int .u8 7, .int .u8 2, .int .u8 0, .int .u8 0, .int .u8 0, .int .u8 0, .int .u8 42, .int .u16 ty, .string y], .int .i64 0]) ∧ Below u.heap.size u w' := by
  have hL : s.data.toList = 2 :: 0 :: 0 :: 0 :: 0 :: 7 :: 2 :: 0 :: 0 :: 0 :: 0 :: 42 :: by8 (ty / 256) :: by8 ty :: (load.data.toList ++ fillE ty load) := by rw [hs, ← ethL_eq]
  obtain ⟨_, g1, g2⟩ := ethL_len ty load
  have ht : 256 * ((by8 (ty / 256)).toNat : Int) + ((by8 ty).toNat : Int) = ty := by rw [by8_toNat, by8_toNat]; omega
  refine EtR.boot_of s 2 0 0 0 0 7 2 0 0 0 0 42 ty y 0 u (fun u => EtR.wire_of s 2 0 0 0 0 7 2 0 0 0 0 42 ty y 0 u (fun u => EtR.read_ok s 2 0 0 0 0 7 2 0 0 0 0 42 ty y u (fun u B h => ?_)))
  rw [hL] at h
  have q := EtR.ether_ok B 2 0 0 0 0 7 2 0 0 0 0 42 (by8 (ty / 256)) (by8 ty) (load.data.toList ++ fillE ty load) u h (by omega) (by rw [ht]; unfold Eth.okTy; simpa using h0) (by unfold Eth.okLoad; rw [str_size]; simp only [decide_eq_true_eq]; omega)
  rw [ht, ← hy] at q
  exact q
def more : List UInt8 := [109, 111, 114, 101]
theorem wIP (id ttl pr fr ta : Int) (load s : ByteArray) (hi : 0 ≤ id ∧ id ≤ 65535) (ht : 0 < ttl ∧ ttl ≤ 255) (hp : 0 ≤ pr ∧ pr ≤ 255) (hf : 0 ≤ fr ∧ fr ≤ 4294967295) (ho : 0 ≤ ta ∧ ta ≤ 4294967295) (hl : load.size ≤ 1000) (hs : s = ⟨(Ip.ipL id ttl pr fr ta load).toArray⟩) (u : World) :
    Calls Tryz.prog 7 #[.agg #[.int .u16 id, .int .u8 ttl, .int .u8 pr, .int .u32 fr, .int .u32 ta, .string load]] u fun e w' => e = .returned (.tuple #[.string s, .int .i64 0]) ∧ Below u.heap.size u w' := by
  have q := Ip.boot_any id ttl pr fr ta load u hi ⟨by omega, ht.2⟩ hp hf ho (by omega)
  unfold Ip.ipS Ip.ipE at q
  rw [if_neg (by omega), if_pos (by omega), if_neg (by omega), if_pos (by omega)] at q
  rw [hs]; exact q
theorem rIP (id ttl pr fr ta : Int) (load s : ByteArray) (hi : 0 ≤ id ∧ id ≤ 65535) (ht : 0 < ttl ∧ ttl ≤ 255) (hp : 0 ≤ pr ∧ pr ≤ 255) (hf : 0 ≤ fr ∧ fr ≤ 4294967295) (ho : 0 ≤ ta ∧ ta ≤ 4294967295) (hl : load.size ≤ 1000) (hs : s = ⟨(Ip.ipL id ttl pr fr ta load).toArray⟩) (u : World) :
    Calls Tryz.prog 8 #[.string (s ++ ⟨more.toArray⟩)] u fun e w' => e = .returned (.tuple #[.agg #[.int .u16 id, .int .u8 ttl, .int .u8 pr, .int .u32 fr, .int .u32 ta, .string load], .int .i64 0]) ∧ Below u.heap.size u w' := by
  have e : s ++ (⟨more.toArray⟩ : ByteArray) = ⟨(Ip.ipL id ttl pr fr ta load ++ more).toArray⟩ := by rw [hs, add_str]
  have k := Sp.ipK_more id ttl pr fr ta load more ht (by omega)
  have q := IpR.code_any (s ++ ⟨more.toArray⟩) (Ip.ipL id ttl pr fr ta load ++ more) (by rw [e]) u (by rw [e, str_size, Sp.ipM_len]; show 20 + load.size + 4 ≤ _; omega)
  rw [IpK.ipF_ok k, IpK.ipF_ok k, IpK.ipF_ok k, IpK.ipF_ok k, IpK.ipF_ok k, IpK.ipLd_ok k, k, Sp.ipM_id _ _ _ _ _ _ _ hi, Sp.ipM_ttl _ _ _ _ _ _ _ ⟨by omega, ht.2⟩, Sp.ipM_pr _ _ _ _ _ _ _ hp, Sp.ipM_fr _ _ _ _ _ _ _ hf, Sp.ipM_ta _ _ _ _ _ _ _ ho, Sp.ipM_ld _ _ _ _ _ _ _ (by omega), show (⟨load.data.toList.toArray⟩ : ByteArray) = load from str_eta load] at q
  exact q
theorem cIP (id ttl pr fr ta : Int) (load s : ByteArray) (hs : s = ⟨(Ip.ipL id ttl pr fr ta load).toArray⟩) (u : World) :
    Calls Tryz.prog 9 #[.string (s.extract 0 20)] u fun e w' => e = .returned (.int .u16 0) ∧ w' = u := by
  have hx : (s.extract 0 20).data.toList = Ip.headL (20 + load.size) id ttl pr fr ta (Ip.chk (Ip.headL (20 + load.size) id ttl pr fr ta 0)) := by
    rw [ByteArray.data_extract, Array.toList_extract, hs, List.extract_eq_take_drop, List.drop_zero]
    exact Sp.ipL_take id ttl pr fr ta load
  have q := Chk.boot_check (s.extract 0 20) u (by
    have := congrArg List.length hx
    rw [Array.length_toList, Ip.headL_length] at this
    show (s.extract 0 20).data.size ≤ _
    omega)
  rw [hx] at q
  have z : (65535 - Chk.fold (Chk.wsum (Ip.headL (20 + load.size) id ttl pr fr ta (Ip.chk (Ip.headL (20 + load.size) id ttl pr fr ta 0)))) : Int) = 0 := Sp.head_right (20 + load.size) id ttl pr fr ta
  rw [z] at q
  exact q
theorem wUDP (f t fr ta : Int) (load s : ByteArray) (hF : 0 ≤ f ∧ f ≤ 65535) (hT : 0 ≤ t ∧ t ≤ 65535) (hf : 0 ≤ fr ∧ fr ≤ 4294967295) (ho : 0 ≤ ta ∧ ta ≤ 4294967295) (hl : load.size ≤ 1000) (hs : s = ⟨(Ud.udpL f t fr ta load).toArray⟩) (u : World) :
    Calls Tryz.prog 10 #[.agg #[.int .u16 f, .int .u16 t, .string load], .int .u32 fr, .int .u32 ta] u fun e w' => e = .returned (.tuple #[.string s, .int .i64 0]) ∧ Below u.heap.size u w' := by
  have q := Ud.boot_any f t fr ta load u hF hT hf ho (by omega)
  unfold Ud.udpS Ud.udpE at q
  rw [if_pos (by omega), if_pos (by omega)] at q
  rw [hs]; exact q
theorem rUDP (f t fr ta : Int) (load s : ByteArray) (hF : 0 ≤ f ∧ f ≤ 65535) (hT : 0 ≤ t ∧ t ≤ 65535) (hf : 0 ≤ fr ∧ fr ≤ 4294967295) (ho : 0 ≤ ta ∧ ta ≤ 4294967295) (hl : load.size ≤ 1000) (hs : s = ⟨(Ud.udpL f t fr ta load).toArray⟩) (u : World) :
    Calls Tryz.prog 11 #[.string (s ++ ⟨more.toArray⟩), .int .u32 fr, .int .u32 ta] u fun e w' => e = .returned (.tuple #[.agg #[.int .u16 f, .int .u16 t, .string load], .int .i64 0]) ∧ Below u.heap.size u w' := by
  have e : s ++ (⟨more.toArray⟩ : ByteArray) = ⟨(Ud.udpL f t fr ta load ++ more).toArray⟩ := by rw [hs, add_str]
  have k := Sp.udK_more f t fr ta load more (by omega)
  have q := UdR.code_any (s ++ ⟨more.toArray⟩) (Ud.udpL f t fr ta load ++ more) (by rw [e]) fr ta u (by rw [e, str_size, Sp.udM_len]; show 8 + load.size + 4 ≤ _; omega) hf ho
  rw [UdK.udF_ok k, UdK.udF_ok k, UdK.udLd_ok k, k, Sp.udM_f _ _ _ _ _ _ hF, Sp.udM_t _ _ _ _ _ _ hT, Sp.udM_ld _ _ _ _ _ _ (by omega), show (⟨load.data.toList.toArray⟩ : ByteArray) = load from str_eta load] at q
  exact q
theorem wARP (op fi ti : Int) (s : ByteArray) (ho : op = 1 ∨ op = 2) (hf : 0 ≤ fi ∧ fi ≤ 4294967295) (ht : 0 ≤ ti ∧ ti ≤ 4294967295) (hs : s = ⟨(Arp.arpL op [2, 0, 0, 0, 0, 7] fi [2, 0, 0, 0, 0, 42] ti).toArray⟩) (u : World) :
    Calls Tryz.prog 20 #[.agg #[.int .u16 op, .int .u8 2, .int .u8 0, .int .u8 0, .int .u8 0, .int .u8 0, .int .u8 7, .int .u32 fi, .int .u8 2, .int .u8 0, .int .u8 0, .int .u8 0, .int .u8 0, .int .u8 42, .int .u32 ti]] u fun e w' => e = .returned (.tuple #[.string s, .int .i64 0]) ∧ Below u.heap.size u w' := by
  have q := Arp.boot_any op 2 0 0 0 0 7 fi 2 0 0 0 0 42 ti u (by omega) (by omega) hf.1 hf.2 ht.1 ht.2
  have hk : Arp.okOp op = true := by rcases ho with rfl | rfl <;> decide
  unfold Arp.arpS Arp.arpE at q
  rw [if_pos hk, if_pos hk] at q
  rw [hs]; exact q
set_option maxRecDepth 100000 in
theorem rARP (op fi ti : Int) (s : ByteArray) (ho : op = 1 ∨ op = 2) (hf : 0 ≤ fi ∧ fi ≤ 4294967295) (ht : 0 ≤ ti ∧ ti ≤ 4294967295) (hs : s = ⟨(Arp.arpL op [2, 0, 0, 0, 0, 7] fi [2, 0, 0, 0, 0, 42] ti).toArray⟩) (u : World) :
    Calls Tryz.prog 21 #[.string (s ++ ⟨more.toArray⟩)] u fun e w' => e = .returned (.tuple #[.agg #[.int .u16 op, .int .u8 2, .int .u8 0, .int .u8 0, .int .u8 0, .int .u8 0, .int .u8 7, .int .u32 fi, .int .u8 2, .int .u8 0, .int .u8 0, .int .u8 0, .int .u8 0, .int .u8 42, .int .u32 ti], .int .i64 0]) ∧ Below u.heap.size u w' := by
  have hL : (s ++ (⟨more.toArray⟩ : ByteArray)).data.toList = 0 :: 1 :: 8 :: 0 :: 6 :: 4 :: by8 (op / 256) :: by8 op :: 2 :: 0 :: 0 :: 0 :: 0 :: 7 :: by8 (fi / 65536 / 256) :: by8 (fi / 65536) :: by8 (fi % 65536 / 256) :: by8 (fi % 65536) :: 2 :: 0 :: 0 :: 0 :: 0 :: 42 :: by8 (ti / 65536 / 256) :: by8 (ti / 65536) :: by8 (ti % 65536 / 256) :: by8 (ti % 65536) :: more := by
    rw [hs, add_str]
    rfl
  have h1 : 256 * ((by8 (op / 256)).toNat : Int) + ((by8 op).toNat : Int) = op := by rw [by8_toNat, by8_toNat]; omega
  have h2 : 16777216 * ((by8 (fi / 65536 / 256)).toNat : Int) + 65536 * ((by8 (fi / 65536)).toNat : Int) + 256 * ((by8 (fi % 65536 / 256)).toNat : Int) + ((by8 (fi % 65536)).toNat : Int) = fi := by rw [by8_toNat, by8_toNat, by8_toNat, by8_toNat]; omega
  have h3 : 16777216 * ((by8 (ti / 65536 / 256)).toNat : Int) + 65536 * ((by8 (ti / 65536)).toNat : Int) + 256 * ((by8 (ti % 65536 / 256)).toNat : Int) + ((by8 (ti % 65536)).toNat : Int) = ti := by rw [by8_toNat, by8_toNat, by8_toNat, by8_toNat]; omega
  obtain ⟨S, hS⟩ : ∃ S : ByteArray, S = s ++ ⟨more.toArray⟩ := ⟨_, rfl⟩
  rw [← hS] at hL ⊢
  clear hS hs
  refine ArR.boot_of S op 2 0 0 0 0 7 fi 2 0 0 0 0 42 ti 0 u (fun u => ArR.wire_of S op 2 0 0 0 0 7 fi 2 0 0 0 0 42 ti 0 u (fun u => ArR.read_ok S op 2 0 0 0 0 7 fi 2 0 0 0 0 42 ti u (fun u B h => ?_)))
  rw [hL] at h
  have q := ArR.arp_ok B 0 1 8 0 6 4 (by8 (op / 256)) (by8 op) 2 0 0 0 0 7 (by8 (fi / 65536 / 256)) (by8 (fi / 65536)) (by8 (fi % 65536 / 256)) (by8 (fi % 65536)) 2 0 0 0 0 42 (by8 (ti / 65536 / 256)) (by8 (ti / 65536)) (by8 (ti % 65536 / 256)) (by8 (ti % 65536)) more u h (by simp only [List.length_cons, more, List.length_nil, maxLen]; omega) (by decide) (by rw [h1]; rcases ho with rfl | rfl <;> decide)
  rw [h1, h2, h3] at q
  exact q
end Go.Proofs.YtoifihhmneldeaaGreatDoor.Rn
