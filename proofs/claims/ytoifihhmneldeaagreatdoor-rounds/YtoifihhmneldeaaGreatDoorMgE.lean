import Derived.Test.YtoifihhmneldeaaGreatDoorMgDd
import Derived.Test.YtoifihhmneldeaaGreatDoorMgR
import Derived.Test.YtoifihhmneldeaaGreatDoorMgDa
namespace Go.Proofs.YtoifihhmneldeaaGreatDoor.Rn
open Go.ChangeShapes Go.WideShapes Go.ChangeAt Go.RowKit Bs Rd
open Dh (Opts opt8 opts8 bad badC heavy At cellsO allL fullL headL preL opI flI optK optL)
set_option linter.unusedVariables false
set_option linter.unusedSimpArgs false

/-- the options of the statement's message -/
def osM (c2 c3 : UInt8) (l : List UInt8) : Opts := [(53, [1]), (c2, l), (c3, [])]
theorem osM_ok (c2 c3 : UInt8) (l : List UInt8) (h2 : 60 ≤ c2.toNat ∧ c2.toNat ≤ 159) (h3 : 161 ≤ c3.toNat ∧ c3.toNat ≤ 250) : bad (osM c2 c3 l) = false := by
  simp only [bad, osM, List.any_cons, List.any_nil, badC, Bool.or_false, Bool.or_eq_false_iff, beq_eq_false_iff_ne]
  refine ⟨⟨⟨by decide, by decide⟩, by decide⟩, ⟨⟨by omega, by omega⟩, by omega⟩, ⟨⟨by omega, by omega⟩, by omega⟩⟩
theorem opt8_len (c : UInt8) (d : List UInt8) : (opt8 c d).length ≤ d.length + 2 + 2 * (d.length / 255) := by
  by_cases h : 255 < d.length
  · have ih := opt8_len c (d.drop 255)
    rw [Dh.opt8_long c d h]
    simp only [List.length_cons, List.length_append, List.length_take, List.length_drop] at ih ⊢
    omega
  · rw [Dh.opt8_short c d h]
    simp only [List.length_cons]; omega
termination_by d.length
decreasing_by simp; omega
def mD : List UInt8 := [2, 0, 0, 0, 0, 42]
theorem all_len (rep : Bool) (xid cl yo ne : Int) (c2 c3 : UInt8) (l : List UInt8) (hl : l.length ≤ 1000) : (allL rep xid cl yo ne mD (osM c2 c3 l)).length ≤ 1300 ∧ 240 ≤ (allL rep xid cl yo ne mD (osM c2 c3 l)).length := by
  have q := opt8_len c2 l
  have q1 : (opt8 53 [1]).length = 3 := by rw [Dh.opt8_short _ _ (by decide)]; rfl
  have q3 : (opt8 c3 []).length = 2 := by rw [Dh.opt8_short _ _ (by simp)]; rfl
  have e : (opts8 (osM c2 c3 l)).length = 3 + ((opt8 c2 l).length + 2) := by
    simp only [opts8, osM, List.flatMap_cons, List.flatMap_nil, List.length_append, List.length_nil, q1, q3]
  unfold allL
  rw [List.length_append, List.length_append, Dh.headL_length _ _ _ _ _ _ _ rfl, e]
  simp only [List.length_cons, List.length_nil]
  omega
theorem wDHCP (rep : Bool) (xid cl yo ne : Int) (c2 c3 : UInt8) (l : List UInt8) (s : ByteArray) (sa : Option Addr) (sc : Nat) (hx : 0 ≤ xid ∧ xid ≤ 4294967295) (hc : 0 ≤ cl ∧ cl ≤ 4294967295) (hy : 0 ≤ yo ∧ yo ≤ 4294967295) (hn : 0 ≤ ne ∧ ne ≤ 4294967295) (h2 : 60 ≤ c2.toNat ∧ c2.toNat ≤ 159) (h3 : 161 ≤ c3.toNat ∧ c3.toNat ≤ 250) (hl : l.length ≤ 1000)
    (hs : s = ⟨(fullL (allL rep xid cl yo ne mD (osM c2 c3 l))).toArray⟩) (u : World) (hA : At u sa (osM c2 c3 l)) :
    Calls Tryz.prog 22 #[.agg #[.bool rep, .int .u32 xid, .int .u32 cl, .int .u32 yo, .int .u32 ne, .int .u8 2, .int .u8 0, .int .u8 0, .int .u8 0, .int .u8 0, .int .u8 42, .slice sa 3 sc]] u fun e w' => e = .returned (.tuple #[.string s, .int .i64 0]) ∧ Below u.heap.size u w' := by
  have q := Dh.boot_any rep xid cl yo ne 2 0 0 0 0 42 sa sc (osM c2 c3 l) u hx hc hy hn hA (by simp only [heavy, osM, List.length_cons, List.length_nil, List.map_cons, List.map_nil, List.sum_cons, List.sum_nil]; omega)
  have hb := osM_ok c2 c3 l h2 h3
  have ha := (all_len rep xid cl yo ne c2 c3 l hl).1
  unfold Dh.dhS Dh.dhE at q
  have ha2 : ¬ 1472 < (allL rep xid cl yo ne [2, 0, 0, 0, 0, 42] (osM c2 c3 l)).length := by have := ha; unfold mD at this; omega
  simp only [hb, Bool.false_eq_true, if_false, ha2] at q
  rw [hs]; exact q
theorem full_len (rep : Bool) (xid cl yo ne : Int) (c2 c3 : UInt8) (l : List UInt8) (hl : l.length ≤ 1000) : 300 ≤ (fullL (allL rep xid cl yo ne mD (osM c2 c3 l))).length ∧ (fullL (allL rep xid cl yo ne mD (osM c2 c3 l))).length ≤ 1400 := by
  have := all_len rep xid cl yo ne c2 c3 l hl
  simp only [fullL, List.length_append, List.length_replicate]
  omega
theorem zeros202 : List.replicate 202 (0 : UInt8) = List.replicate 10 0 ++ (List.replicate 64 0 ++ List.replicate 128 0) := by decide +kernel
set_option maxRecDepth 100000 in
theorem rDHCP (rep : Bool) (xid cl yo ne : Int) (c2 c3 : UInt8) (l : List UInt8) (s : ByteArray) (hx : 0 ≤ xid ∧ xid ≤ 4294967295) (hc : 0 ≤ cl ∧ cl ≤ 4294967295) (hy : 0 ≤ yo ∧ yo ≤ 4294967295) (hn : 0 ≤ ne ∧ ne ≤ 4294967295) (h2 : 60 ≤ c2.toNat ∧ c2.toNat ≤ 159) (h3 : 161 ≤ c3.toNat ∧ c3.toNat ≤ 250) (hl : l.length ≤ 1000)
    (hs : s = ⟨(fullL (allL rep xid cl yo ne mD (osM c2 c3 l))).toArray⟩) (u : World) :
    Calls Tryz.prog 23 #[.string s] u fun ee w' => DhR.OutP 3 (cellsO (osM c2 c3 l)) u (fun sa sc => .tuple #[.agg #[.bool rep, .int .u32 xid, .int .u32 cl, .int .u32 yo, .int .u32 ne, .int .u8 2, .int .u8 0, .int .u8 0, .int .u8 0, .int .u8 0, .int .u8 42, .slice sa 3 sc], .int .i64 0]) ee w' := by
  obtain ⟨z, hz⟩ : ∃ z, z = List.replicate (300 - (allL rep xid cl yo ne mD (osM c2 c3 l)).length) (0 : UInt8) := ⟨_, rfl⟩
  have hfl := full_len rep xid cl yo ne c2 c3 l hl
  have hL : s.data.toList = by8 (opI rep) :: 1 :: 6 :: by8 0 :: by8 (xid / 65536 / 256) :: by8 (xid / 65536) :: by8 (xid % 65536 / 256) :: by8 (xid % 65536) :: by8 (0 / 256) :: by8 0 :: by8 (flI cl / 256) :: by8 (flI cl) :: by8 (cl / 65536 / 256) :: by8 (cl / 65536) :: by8 (cl % 65536 / 256) :: by8 (cl % 65536) :: by8 (yo / 65536 / 256) :: by8 (yo / 65536) :: by8 (yo % 65536 / 256) :: by8 (yo % 65536) :: by8 (ne / 65536 / 256) :: by8 (ne / 65536) :: by8 (ne % 65536 / 256) :: by8 (ne % 65536) :: by8 (0 / 65536 / 256) :: by8 (0 / 65536) :: by8 (0 % 65536 / 256) :: by8 (0 % 65536) :: 2 :: 0 :: 0 :: 0 :: 0 :: 42 :: (List.replicate 10 0 ++ (List.replicate 64 0 ++ (List.replicate 128 0 ++ ([99, 130, 83, 99] ++ (opts8 (osM c2 c3 l) ++ 255 :: z))))) := by
    rw [hs]
    show fullL (allL rep xid cl yo ne mD (osM c2 c3 l)) = _
    unfold fullL
    rw [← hz]
    unfold allL headL
    rw [zeros202]
    simp only [preL, dwords8, dword8, words8, word8, mD, List.flatMap_cons, List.flatMap_nil, List.append_assoc, List.cons_append, List.nil_append, List.append_nil]
  have n4 : ∀ x : Int, 0 ≤ x ∧ x ≤ 4294967295 → 16777216 * ((by8 (x / 65536 / 256)).toNat : Int) + 65536 * ((by8 (x / 65536)).toNat : Int) + 256 * ((by8 (x % 65536 / 256)).toNat : Int) + ((by8 (x % 65536)).toNat : Int) = x := fun x hx => by rw [by8_toNat, by8_toNat, by8_toNat, by8_toNat]; omega
  have ob := Dh.opts_back (osM c2 c3 l) z (List.replicate 64 0) (List.replicate 128 0) (osM_ok c2 c3 l h2 h3)
  have oa : Dh.addAll [] (osM c2 c3 l) = osM c2 c3 l := Dh.addAll_three 53 c2 c3 [1] l [] (fun e => by rw [← e] at h2; exact absurd h2.1 (by decide)) (fun e => by rw [← e] at h3; exact absurd h3.1 (by decide)) (fun e => by rw [e] at h2; omega)
  rw [oa] at ob
  have hop : (((by8 (opI rep)).toNat : Int) == 1 || ((by8 (opI rep)).toNat : Int) == 2) = true := by cases rep <;> decide
  have hrp : (((by8 (opI rep)).toNat : Int) == 2) = rep := by cases rep <;> decide
  have hlen : s.data.toList.length ≤ 1048576 := by rw [hs]; show (fullL _).length ≤ _; omega
  clear hs hz hfl
  refine DhR.boot_of_ok s rep xid cl yo ne 2 0 0 0 0 42 _ _ u (fun u => DhR.wire_of_ok s rep xid cl yo ne 2 0 0 0 0 42 _ _ u (fun u => DhR.read_ok s rep xid cl yo ne 2 0 0 0 0 42 _ _ u (fun u' B hr _ => ?_)))
  rw [hL] at hr hlen
  have q := Dh.dhcp_all B _ _ _ _ _ _ _ _ _ _ _ _ _ _ _ _ _ _ _ _ _ _ _ _ _ _ _ _ _ _ _ _ _ _ _ _ _ ⟨(List.replicate 10 0).toArray⟩ ⟨(List.replicate 64 0).toArray⟩ ⟨(List.replicate 128 0).toArray⟩ ⟨#[99, 130, 83, 99]⟩ u' hr hlen rfl rfl rfl rfl rfl rfl rfl rfl rep hop hrp rfl
  rw [n4 xid hx, n4 cl hc, n4 yo hy, n4 ne hn] at q
  refine q.mono ?_
  rintro ee w' ⟨hg, hp⟩
  have k0 : optK (opts8 (osM c2 c3 l) ++ 255 :: z) (⟨(List.replicate 64 0).toArray⟩ : ByteArray).data.toList (⟨(List.replicate 128 0).toArray⟩ : ByteArray).data.toList = 0 := ob.1
  rw [if_pos k0] at hp
  obtain ⟨ao, cp, rfl, hown⟩ := hp
  have k1 : optL (opts8 (osM c2 c3 l) ++ 255 :: z) (⟨(List.replicate 64 0).toArray⟩ : ByteArray).data.toList (⟨(List.replicate 128 0).toArray⟩ : ByteArray).data.toList = osM c2 c3 l := ob.2
  rw [k1] at hown ⊢
  exact ⟨⟨ao, cp, rfl, hown⟩, hg⟩
end Go.Proofs.YtoifihhmneldeaaGreatDoor.Rn
