import Derived.Test.YtonlmklkikbeiaaGreatDoorMgKb
import Derived.Test.YtonlmklkikbeiaaGreatDoorMgMk
import Derived.Test.YtonlmklkikbeiaaGreatDoorMgIa
import Derived.Test.YtonlmklkikbeiaaGreatDoorMgIb
import Derived.Test.YtonlmklkikbeiaaGreatDoorMgUb
import Derived.Test.YtonlmklkikbeiaaGreatDoorMgDf
import Derived.Test.YtonlmklkikbeiaaGreatDoorMgEb
namespace Go.Proofs.YtonlmklkikbeiaaGreatDoor.Kn
open Go.ChangeShapes Go.WideShapes Go.ChangeAt Go.RowKit Bs Rd
open Dh
set_option linter.unusedVariables false
set_option linter.unusedSimpArgs false

theorem str_size (a : List UInt8) : (⟨a.toArray⟩ : ByteArray).size = a.length := by simp [ByteArray.size]
def mD : List UInt8 := [2, 0, 0, 0, 0, 42]
def toM : List UInt8 := [255, 255, 255, 255, 255, 255, 2, 0, 0, 0, 0, 42]
theorem full300 (rep : Bool) (xid cl yo ne : Int) : (fullL (allL rep xid cl yo ne mD (Mac.sayO 1 []))).length = 300 := by
  have hl : (allL rep xid cl yo ne mD (Mac.sayO 1 [])).length = 252 := by
    unfold allL
    rw [List.length_append, List.length_append, Mac.opts_len, headL_length _ _ _ _ _ _ _ rfl]
    rfl
  rw [fullL, List.length_append, hl, List.length_replicate]
theorem zeros202 : List.replicate 202 (0 : UInt8) = List.replicate 10 0 ++ (List.replicate 64 0 ++ List.replicate 128 0) := by decide +kernel
theorem kEther (L s : ByteArray) (h0 : 46 ≤ L.size) (h1 : L.size ≤ 1500) (hs : s = Eth.ethS toM 2048 L) (u : World) :
    Calls Tryz.prog 15 #[.string s] u fun e w' => e = .returned (.tuple #[.agg #[.int .u8 255, .int .u8 255, .int .u8 255, .int .u8 255, .int .u8 255, .int .u8 255, .int .u8 2, .int .u8 0, .int .u8 0, .int .u8 0, .int .u8 0, .int .u8 42, .int .u16 2048, .string L], .int .i64 0]) ∧ Below u.heap.size u w' := by
  have k1 : Eth.okTy 2048 = true := by decide
  have k2 : Eth.okLoad L = true := by unfold Eth.okLoad; simpa using h1
  have hls := len_str L
  have hL : s.data.toList = 255 :: 255 :: 255 :: 255 :: 255 :: 255 :: 2 :: 0 :: 0 :: 0 :: 0 :: 42 :: 8 :: 0 :: L.data.toList := by
    rw [hs]
    unfold Eth.ethS
    rw [k1, k2]
    show Eth.ethL toM 2048 L = _
    unfold Eth.ethL
    have e : 60 - (toM ++ word8 2048 ++ L.data.toList).length = 0 := by simp only [List.length_append, hls, toM, word8, List.length_cons, List.length_nil]; omega
    rw [e]
    simp [toM, word8]
    decide
  refine EtR.boot_of s 255 255 255 255 255 255 2 0 0 0 0 42 2048 L 0 u (fun u => EtR.wire_of s 255 255 255 255 255 255 2 0 0 0 0 42 2048 L 0 u (fun u => EtR.read_ok s 255 255 255 255 255 255 2 0 0 0 0 42 2048 L u (fun u B h => ?_)))
  rw [hL] at h
  have q := EtR.ether_ok B 255 255 255 255 255 255 2 0 0 0 0 42 8 0 L.data.toList u h (by rw [hls]; omega) (by decide) (by rw [str_eta]; exact k2)
  rw [str_eta] at q
  exact q
theorem kIP (id ttl pr fr ta : Int) (load s : ByteArray) (hi : 0 ≤ id ∧ id ≤ 65535) (ht : 0 < ttl ∧ ttl ≤ 255) (hp : 0 ≤ pr ∧ pr ≤ 255) (hf : 0 ≤ fr ∧ fr ≤ 4294967295) (ho : 0 ≤ ta ∧ ta ≤ 4294967295) (hl : load.size ≤ 1000) (hs : s = ⟨(Ip.ipL id ttl pr fr ta load).toArray⟩) (u : World) :
    Calls Tryz.prog 16 #[.string s] u fun e w' => e = .returned (.tuple #[.agg #[.int .u16 id, .int .u8 ttl, .int .u8 pr, .int .u32 fr, .int .u32 ta, .string load], .int .i64 0]) ∧ Below u.heap.size u w' := by
  have e : s = ⟨(Ip.ipL id ttl pr fr ta load ++ []).toArray⟩ := by rw [hs, List.append_nil]
  have k := Sp.ipK_more id ttl pr fr ta load [] ht (by omega)
  have q := IpR.code_any s (Ip.ipL id ttl pr fr ta load ++ []) (by rw [e]) u (by rw [e, str_size, Sp.ipM_len]; show 20 + load.size + 0 ≤ _; omega)
  rw [IpK.ipF_ok k, IpK.ipF_ok k, IpK.ipF_ok k, IpK.ipF_ok k, IpK.ipF_ok k, IpK.ipLd_ok k, k, Sp.ipM_id _ _ _ _ _ _ _ hi, Sp.ipM_ttl _ _ _ _ _ _ _ ⟨by omega, ht.2⟩, Sp.ipM_pr _ _ _ _ _ _ _ hp, Sp.ipM_fr _ _ _ _ _ _ _ hf, Sp.ipM_ta _ _ _ _ _ _ _ ho, Sp.ipM_ld _ _ _ _ _ _ _ (by omega), show (⟨load.data.toList.toArray⟩ : ByteArray) = load from str_eta load] at q
  exact q
theorem kUDP (f t fr ta : Int) (load s : ByteArray) (hF : 0 ≤ f ∧ f ≤ 65535) (hT : 0 ≤ t ∧ t ≤ 65535) (hf : 0 ≤ fr ∧ fr ≤ 4294967295) (ho : 0 ≤ ta ∧ ta ≤ 4294967295) (hl : load.size ≤ 1000) (hs : s = ⟨(Ud.udpL f t fr ta load).toArray⟩) (u : World) :
    Calls Tryz.prog 17 #[.string s, .int .u32 fr, .int .u32 ta] u fun e w' => e = .returned (.tuple #[.agg #[.int .u16 f, .int .u16 t, .string load], .int .i64 0]) ∧ Below u.heap.size u w' := by
  have e : s = ⟨(Ud.udpL f t fr ta load ++ []).toArray⟩ := by rw [hs, List.append_nil]
  have k := Sp.udK_more f t fr ta load [] (by omega)
  have q := UdR.code_any s (Ud.udpL f t fr ta load ++ []) (by rw [e]) fr ta u (by rw [e, str_size, Sp.udM_len]; show 8 + load.size + 0 ≤ _; omega) hf ho
  rw [UdK.udF_ok k, UdK.udF_ok k, UdK.udLd_ok k, k, Sp.udM_f _ _ _ _ _ _ hF, Sp.udM_t _ _ _ _ _ _ hT, Sp.udM_ld _ _ _ _ _ _ (by omega), show (⟨load.data.toList.toArray⟩ : ByteArray) = load from str_eta load] at q
  exact q
set_option maxRecDepth 100000 in
theorem kDHCP (rep : Bool) (xid cl yo ne : Int) (s : ByteArray) (hx : 0 ≤ xid ∧ xid ≤ 4294967295) (hc : 0 ≤ cl ∧ cl ≤ 4294967295) (hy : 0 ≤ yo ∧ yo ≤ 4294967295) (hn : 0 ≤ ne ∧ ne ≤ 4294967295) 
    (hs : s = ⟨(fullL (allL rep xid cl yo ne mD (Mac.sayO 1 []))).toArray⟩) (u : World) :
    Calls Tryz.prog 18 #[.string s] u fun ee w' => DhR.OutP 2 (cellsO (Mac.sayO 1 [])) u (fun sa sc => .tuple #[.agg #[.bool rep, .int .u32 xid, .int .u32 cl, .int .u32 yo, .int .u32 ne, .int .u8 2, .int .u8 0, .int .u8 0, .int .u8 0, .int .u8 0, .int .u8 42, .slice sa 2 sc], .int .i64 0]) ee w' := by
  obtain ⟨z, hz⟩ : ∃ z, z = List.replicate (300 - (allL rep xid cl yo ne mD (Mac.sayO 1 [])).length) (0 : UInt8) := ⟨_, rfl⟩
  have hfl : (fullL (allL rep xid cl yo ne mD (Mac.sayO 1 []))).length = 300 := full300 rep xid cl yo ne
  have hL : s.data.toList = by8 (opI rep) :: 1 :: 6 :: by8 0 :: by8 (xid / 65536 / 256) :: by8 (xid / 65536) :: by8 (xid % 65536 / 256) :: by8 (xid % 65536) :: by8 (0 / 256) :: by8 0 :: by8 (flI cl / 256) :: by8 (flI cl) :: by8 (cl / 65536 / 256) :: by8 (cl / 65536) :: by8 (cl % 65536 / 256) :: by8 (cl % 65536) :: by8 (yo / 65536 / 256) :: by8 (yo / 65536) :: by8 (yo % 65536 / 256) :: by8 (yo % 65536) :: by8 (ne / 65536 / 256) :: by8 (ne / 65536) :: by8 (ne % 65536 / 256) :: by8 (ne % 65536) :: by8 (0 / 65536 / 256) :: by8 (0 / 65536) :: by8 (0 % 65536 / 256) :: by8 (0 % 65536) :: 2 :: 0 :: 0 :: 0 :: 0 :: 42 :: (List.replicate 10 0 ++ (List.replicate 64 0 ++ (List.replicate 128 0 ++ ([99, 130, 83, 99] ++ (opts8 (Mac.sayO 1 []) ++ 255 :: z))))) := by
    rw [hs]
    show fullL (allL rep xid cl yo ne mD (Mac.sayO 1 [])) = _
    unfold fullL
    rw [← hz]
    unfold allL headL
    rw [zeros202]
    simp only [preL, dwords8, dword8, words8, word8, mD, List.flatMap_cons, List.flatMap_nil, List.append_assoc, List.cons_append, List.nil_append, List.append_nil]
  have n4 : ∀ x : Int, 0 ≤ x ∧ x ≤ 4294967295 → 16777216 * ((by8 (x / 65536 / 256)).toNat : Int) + 65536 * ((by8 (x / 65536)).toNat : Int) + 256 * ((by8 (x % 65536 / 256)).toNat : Int) + ((by8 (x % 65536)).toNat : Int) = x := fun x hx => by rw [by8_toNat, by8_toNat, by8_toNat, by8_toNat]; omega
  have ob := Dh.opts_back (Mac.sayO 1 []) z (List.replicate 64 0) (List.replicate 128 0) (by decide)
  have oa : Dh.addAll [] (Mac.sayO 1 []) = Mac.sayO 1 [] := by decide
  rw [oa] at ob
  have hop : (((by8 (opI rep)).toNat : Int) == 1 || ((by8 (opI rep)).toNat : Int) == 2) = true := by cases rep <;> decide
  have hrp : (((by8 (opI rep)).toNat : Int) == 2) = rep := by cases rep <;> decide
  have hlen : s.data.toList.length ≤ 1048576 := by rw [hs]; show (fullL _).length ≤ _; omega
  clear hs hz hfl
  refine DhR.boot_of_ok s rep xid cl yo ne 2 0 0 0 0 42 _ _ u (fun u => DhR.wire_of_ok s rep xid cl yo ne 2 0 0 0 0 42 _ _ u (fun u => DhR.read_ok s rep xid cl yo ne 2 0 0 0 0 42 _ _ u (fun u' B hr _ => ?_)))
  rw [hL] at hr hlen
  have q := Dh.dhcp_all B _ _ _ _ _ _ _ _ _ _ _ _ _ _ _ _ _ _ _ _ _ _ _ _ _ _ _ _ _ _ _ _ _ _ _ _ _ ⟨(List.replicate 10 0).toArray⟩ ⟨(List.replicate 64 0).toArray⟩ ⟨(List.replicate 128 0).toArray⟩ ⟨#[99, 130, 83, 99]⟩ u' hr hlen rfl rfl rfl rfl rfl rfl rfl rfl rep hop hrp rfl
  rw [n4 xid hx, n4 cl hc, n4 yo hy, n4 ne hn] at q
  refine q.mono ?_
  rintro ee w' ⟨hg, hp⟩
  have k0 : optK (opts8 (Mac.sayO 1 []) ++ 255 :: z) (⟨(List.replicate 64 0).toArray⟩ : ByteArray).data.toList (⟨(List.replicate 128 0).toArray⟩ : ByteArray).data.toList = 0 := ob.1
  rw [if_pos k0] at hp
  obtain ⟨ao, cp, rfl, hown⟩ := hp
  have k1 : optL (opts8 (Mac.sayO 1 []) ++ 255 :: z) (⟨(List.replicate 64 0).toArray⟩ : ByteArray).data.toList (⟨(List.replicate 128 0).toArray⟩ : ByteArray).data.toList = Mac.sayO 1 [] := ob.2
  rw [k1] at hown ⊢
  exact ⟨⟨ao, cp, rfl, hown⟩, hg⟩
end Go.Proofs.YtonlmklkikbeiaaGreatDoor.Kn

namespace Go.Proofs.YtonlmklkikbeiaaGreatDoor.Kn
open Go.ChangeShapes Go.WideShapes Go.ChangeAt Go.RowKit Bs
set_option linter.unusedVariables false
set_option linter.unusedSimpArgs false

theorem list_look (l : List Field) (h : l.length = 8) : ∃ f0 f1 f2 f3 f4 f5 f6 f7, l = [f0, f1, f2, f3, f4, f5, f6, f7] := by
  match l, h with
  | [f0, f1, f2, f3, f4, f5, f6, f7], _ => exact ⟨f0, f1, f2, f3, f4, f5, f6, f7, rfl⟩
theorem same_look (a0 : Int) (a1 : Int) (a2 : Int) (a3 : Int) (a4 : Int) (a5 : Int) (a6 : Int) (a7 : Int) (w : World) : (Op.equalIn 10000 40 (.agg #[.int .i64 a0, .int .i64 a1, .int .i64 a2, .int .u32 a3, .int .i64 a4, .int .i64 a5, .int .i64 a6, .int .i64 a7]) (.agg #[.int .i64 a0, .int .i64 a1, .int .i64 a2, .int .u32 a3, .int .i64 a4, .int .i64 a5, .int .i64 a6, .int .i64 a7])).run Tryz.prog w = .ok true w := by
  rw [run_equalIn_struct w 9999 40 _ _ (by kernel_rfl) (by kernel_rfl)]
  have p0 : ∀ u, (part 3 #[.int .i64 a0, .int .i64 a1, .int .i64 a2, .int .u32 a3, .int .i64 a4, .int .i64 a5, .int .i64 a6, .int .i64 a7] 0).run Tryz.prog u = .ok (.int .i64 a0) u := fun _ => by kernel_rfl
  have p1 : ∀ u, (part 36 #[.int .i64 a0, .int .i64 a1, .int .i64 a2, .int .u32 a3, .int .i64 a4, .int .i64 a5, .int .i64 a6, .int .i64 a7] 1).run Tryz.prog u = .ok (.int .i64 a1) u := fun _ => by kernel_rfl
  have p2 : ∀ u, (part 37 #[.int .i64 a0, .int .i64 a1, .int .i64 a2, .int .u32 a3, .int .i64 a4, .int .i64 a5, .int .i64 a6, .int .i64 a7] 2).run Tryz.prog u = .ok (.int .i64 a2) u := fun _ => by kernel_rfl
  have p3 : ∀ u, (part 38 #[.int .i64 a0, .int .i64 a1, .int .i64 a2, .int .u32 a3, .int .i64 a4, .int .i64 a5, .int .i64 a6, .int .i64 a7] 3).run Tryz.prog u = .ok (.int .u32 a3) u := fun _ => by kernel_rfl
  have p4 : ∀ u, (part 3 #[.int .i64 a0, .int .i64 a1, .int .i64 a2, .int .u32 a3, .int .i64 a4, .int .i64 a5, .int .i64 a6, .int .i64 a7] 4).run Tryz.prog u = .ok (.int .i64 a4) u := fun _ => by kernel_rfl
  have p5 : ∀ u, (part 3 #[.int .i64 a0, .int .i64 a1, .int .i64 a2, .int .u32 a3, .int .i64 a4, .int .i64 a5, .int .i64 a6, .int .i64 a7] 5).run Tryz.prog u = .ok (.int .i64 a5) u := fun _ => by kernel_rfl
  have p6 : ∀ u, (part 3 #[.int .i64 a0, .int .i64 a1, .int .i64 a2, .int .u32 a3, .int .i64 a4, .int .i64 a5, .int .i64 a6, .int .i64 a7] 6).run Tryz.prog u = .ok (.int .i64 a6) u := fun _ => by kernel_rfl
  have p7 : ∀ u, (part 3 #[.int .i64 a0, .int .i64 a1, .int .i64 a2, .int .u32 a3, .int .i64 a4, .int .i64 a5, .int .i64 a6, .int .i64 a7] 7).run Tryz.prog u = .ok (.int .i64 a7) u := fun _ => by kernel_rfl
  have q0 : ∀ u, (Op.equalIn 9999 3 (.int .i64 a0) (.int .i64 a0)).run Tryz.prog u = .ok true u := fun u => by
    rw [run_equalIn_int u 9998 3 .i64 .i64 a0 a0 Tryz.underlying3]; simp
  have q1 : ∀ u, (Op.equalIn 9999 36 (.int .i64 a1) (.int .i64 a1)).run Tryz.prog u = .ok true u := fun u => by
    rw [run_equalIn_int u 9998 36 .i64 .i64 a1 a1 Tryz.underlying36]; simp
  have q2 : ∀ u, (Op.equalIn 9999 37 (.int .i64 a2) (.int .i64 a2)).run Tryz.prog u = .ok true u := fun u => by
    rw [run_equalIn_int u 9998 37 .i64 .i64 a2 a2 Tryz.underlying37]; simp
  have q3 : ∀ u, (Op.equalIn 9999 38 (.int .u32 a3) (.int .u32 a3)).run Tryz.prog u = .ok true u := fun u => by
    rw [run_equalIn_int u 9998 38 .u32 .u32 a3 a3 Tryz.underlying38]; simp
  have q4 : ∀ u, (Op.equalIn 9999 3 (.int .i64 a4) (.int .i64 a4)).run Tryz.prog u = .ok true u := fun u => by
    rw [run_equalIn_int u 9998 3 .i64 .i64 a4 a4 Tryz.underlying3]; simp
  have q5 : ∀ u, (Op.equalIn 9999 3 (.int .i64 a5) (.int .i64 a5)).run Tryz.prog u = .ok true u := fun u => by
    rw [run_equalIn_int u 9998 3 .i64 .i64 a5 a5 Tryz.underlying3]; simp
  have q6 : ∀ u, (Op.equalIn 9999 3 (.int .i64 a6) (.int .i64 a6)).run Tryz.prog u = .ok true u := fun u => by
    rw [run_equalIn_int u 9998 3 .i64 .i64 a6 a6 Tryz.underlying3]; simp
  have q7 : ∀ u, (Op.equalIn 9999 3 (.int .i64 a7) (.int .i64 a7)).run Tryz.prog u = .ok true u := fun u => by
    rw [run_equalIn_int u 9998 3 .i64 .i64 a7 a7 Tryz.underlying3]; simp
  have hf : (Tryz.prog.fieldsOf 40).toList.map (fun f => (f.name, f.type, f.offset)) = [("Now", 3, 0), ("Lease", 36, 1), ("Phase", 37, 2), ("Address", 38, 3), ("Boots", 3, 4), ("Bytes", 3, 5), ("Lost", 3, 6), ("Cached", 3, 7)] := by kernel_rfl
  generalize (Tryz.prog.fieldsOf 40).toList = fs at hf
  have hl : fs.length = 8 := by have := congrArg List.length hf; simpa using this
  obtain ⟨f0, f1, f2, f3, f4, f5, f6, f7, rfl⟩ := list_look fs hl
  simp only [List.map_cons, List.map_nil, List.cons.injEq, Prod.mk.injEq, and_true] at hf
  obtain ⟨⟨n0, t0, o0⟩, ⟨n1, t1, o1⟩, ⟨n2, t2, o2⟩, ⟨n3, t3, o3⟩, ⟨n4, t4, o4⟩, ⟨n5, t5, o5⟩, ⟨n6, t6, o6⟩, ⟨n7, t7, o7⟩⟩ := hf
  simp only [Op.eqFields, n0, t0, o0, n1, t1, o1, n2, t2, o2, n3, t3, o3, n4, t4, o4, n5, t5, o5, n6, t6, o6, n7, t7, o7, Sem.run_bind, Sem.run_ite, p0, p1, p2, p3, p4, p5, p6, p7, q0, q1, q2, q3, q4, q5, q6, q7, Result.andThen_ok, Bool.not_true, Bool.false_eq_true, if_false, Sem.run_pure]
  simp
theorem list_option (l : List Field) (h : l.length = 2) : ∃ f0 f1, l = [f0, f1] := by
  match l, h with
  | [f0, f1], _ => exact ⟨f0, f1, rfl⟩
theorem same_option (a0 : Int) (a1 : ByteArray) (w : World) : (Op.equalIn 10000 67 (.agg #[.int .u8 a0, .string a1]) (.agg #[.int .u8 a0, .string a1])).run Tryz.prog w = .ok true w := by
  rw [run_equalIn_struct w 9999 67 _ _ (by kernel_rfl) (by kernel_rfl)]
  have p0 : ∀ u, (part 5 #[.int .u8 a0, .string a1] 0).run Tryz.prog u = .ok (.int .u8 a0) u := fun _ => by kernel_rfl
  have p1 : ∀ u, (part 9 #[.int .u8 a0, .string a1] 1).run Tryz.prog u = .ok (.string a1) u := fun _ => by kernel_rfl
  have q0 : ∀ u, (Op.equalIn 9999 5 (.int .u8 a0) (.int .u8 a0)).run Tryz.prog u = .ok true u := fun u => by
    rw [run_equalIn_int u 9998 5 .u8 .u8 a0 a0 Tryz.underlying5]; simp
  have q1 : ∀ u, (Op.equalIn 9999 9 (.string a1) (.string a1)).run Tryz.prog u = .ok true u := fun u => by
    rw [run_equalIn_string u 9998 9 a1 a1 Tryz.underlying9]; simp
  have hf : (Tryz.prog.fieldsOf 67).toList.map (fun f => (f.name, f.type, f.offset)) = [("Code", 5, 0), ("Data", 9, 1)] := by kernel_rfl
  generalize (Tryz.prog.fieldsOf 67).toList = fs at hf
  have hl : fs.length = 2 := by have := congrArg List.length hf; simpa using this
  obtain ⟨f0, f1, rfl⟩ := list_option fs hl
  simp only [List.map_cons, List.map_nil, List.cons.injEq, Prod.mk.injEq, and_true] at hf
  obtain ⟨⟨n0, t0, o0⟩, ⟨n1, t1, o1⟩⟩ := hf
  simp only [Op.eqFields, n0, t0, o0, n1, t1, o1, Sem.run_bind, Sem.run_ite, p0, p1, q0, q1, Result.andThen_ok, Bool.not_true, Bool.false_eq_true, if_false, Sem.run_pure]
  simp
end Go.Proofs.YtonlmklkikbeiaaGreatDoor.Kn
