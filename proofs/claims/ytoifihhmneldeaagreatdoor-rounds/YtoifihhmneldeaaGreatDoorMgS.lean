import Derived.Test.YtoifihhmneldeaaGreatDoorMgI
import Derived.Test.YtoifihhmneldeaaGreatDoorMgU
import Derived.Deep.RegionHeld3
import Derived.Deep.CutRange
import Derived.Deep.DeepCutAuto
namespace Go.Proofs.YtoifihhmneldeaaGreatDoor.Sp
open Go.ChangeShapes Go.WideShapes Go.ChangeAt Go.RowKit Bs Rd IpK UdK
open Ip (chk chk_bd headL headL_length headL_put ipL)
open Ud (udpP udp0 udpQ udpC udpL)
open Chk (wsum fold wsum_nonneg)
open Wt (put16 put16_length)
set_option linter.unusedVariables false

theorem wsum_set : ∀ (l : List UInt8) (j : Nat) (x : UInt8) (h : j < l.length), wsum (l.set j x) = wsum l + ((x.toNat : Int) - (l[j].toNat : Int)) * (if j % 2 = 0 then 256 else 1)
  | [], j, x, h => by simp at h
  | [a], 0, x, h => by simp only [List.set_cons_zero, wsum, List.getElem_cons_zero]; simp; omega
  | [a], j + 1, x, h => by simp at h
  | a :: b :: r, 0, x, h => by simp only [List.set_cons_zero, wsum, List.getElem_cons_zero]; simp; omega
  | a :: b :: r, 1, x, h => by simp only [List.set_cons_succ, List.set_cons_zero, wsum, List.getElem_cons_succ, List.getElem_cons_zero]; simp; omega
  | a :: b :: r, j + 2, x, h => by
    have ih := wsum_set r j x (by simpa using h)
    simp only [List.set_cons_succ, wsum, List.getElem_cons_succ]
    rw [ih]
    have e : (j + 2) % 2 = j % 2 := by omega
    rw [e]
    omega
theorem chk_zero (l : List UInt8) : chk l = 0 ↔ 0 < wsum l ∧ wsum l % 65535 = 0 := by
  have h := wsum_nonneg l
  unfold chk fold
  split <;> omega
/-- one byte changed: the sum is not right any more -/
theorem chk_changed (l : List UInt8) (j : Nat) (x : UInt8) (h : j < l.length) (hx : x ≠ l[j]) (h0 : chk l = 0) : chk (l.set j x) ≠ 0 := by
  intro h1
  rw [chk_zero] at h0 h1
  rw [wsum_set l j x h] at h1
  have hne : x.toNat ≠ l[j].toNat := fun e => hx (UInt8.toNat_inj.1 e)
  have b1 := x.toNat_lt
  have b2 := l[j].toNat_lt
  split at h1 <;> omega
/-- the sum is put where 0 stood -/
theorem wsum_put (l : List UInt8) (at' : Nat) (c : Int) (h : at' + 1 < l.length) (he : at' % 2 = 0) (z0 : l[at'] = 0) (z1 : l[at' + 1] = 0) (h0 : 0 ≤ c) (h1 : c ≤ 65535) : wsum (put16 l at' c) = wsum l + c := by
  unfold put16
  rw [wsum_set _ (at' + 1) _ (by simpa using h), wsum_set l at' _ (by omega)]
  rw [List.getElem_set_ne (by omega)]
  rw [z0, z1, if_pos he, if_neg (by omega), by8_toNat, by8_toNat]
  simp
  omega
theorem chk_put (l : List UInt8) (at' : Nat) (h : at' + 1 < l.length) (he : at' % 2 = 0) (z0 : l[at'] = 0) (z1 : l[at' + 1] = 0) : chk (put16 l at' (chk l)) = 0 := by
  have hb := chk_bd l
  rw [chk_zero, wsum_put l at' _ h he z0 z1 hb.1 hb.2]
  have hn := wsum_nonneg l
  unfold chk fold at *
  split at hb <;> (split <;> omega)
theorem chk_put' (l : List UInt8) (at' : Nat) (h : at' + 1 < l.length) (he : at' % 2 = 0) (z0 : l[at'] = 0) (z1 : l[at' + 1] = 0) (hq : chk l = 0) : chk (put16 l at' 65535) = 0 := by
  rw [chk_zero] at hq ⊢
  rw [wsum_put l at' _ h he z0 z1 (by omega) (by omega)]
  omega

theorem head_right (n id ttl pr fr ta : Int) : chk (headL n id ttl pr fr ta (chk (headL n id ttl pr fr ta 0))) = 0 := by
  rw [← headL_put]
  exact chk_put _ 10 (by rw [headL_length]; omega) rfl rfl rfl
theorem ipL_length (id ttl pr fr ta : Int) (load : ByteArray) : (ipL id ttl pr fr ta load).length = 20 + load.size := by
  rw [ipL, List.length_append, headL_length, len_str]
theorem ipL_take (id ttl pr fr ta : Int) (load : ByteArray) : (ipL id ttl pr fr ta load).take 20 = headL (20 + load.size) id ttl pr fr ta (chk (headL (20 + load.size) id ttl pr fr ta 0)) := by
  rw [ipL, List.take_left' (headL_length _ _ _ _ _ _ _)]
theorem ipK_written (id ttl pr fr ta : Int) (load : ByteArray) (ht : 0 < ttl ∧ ttl ≤ 255) (hl : load.size ≤ 1480) : ipK (ipL id ttl pr fr ta load) = 0 := by
  have b0 : bt (ipL id ttl pr fr ta load) 0 = 69 := rfl
  have b2 : w2 (ipL id ttl pr fr ta load) 2 = 256 * ((by8 ((20 + (load.size : Int)) / 256)).toNat : Int) + ((by8 (20 + (load.size : Int))).toNat : Int) := rfl
  have b6 : w2 (ipL id ttl pr fr ta load) 6 = 256 * ((by8 (16384 / 256)).toNat : Int) + ((by8 16384).toNat : Int) := rfl
  have b8 : bt (ipL id ttl pr fr ta load) 8 = ((by8 ttl).toNat : Int) := rfl
  rw [by8_toNat, by8_toNat] at b2 b6
  rw [by8_toNat] at b8
  unfold ipK
  rw [b0, b2, b6, b8, ipL_take, ipL_length, if_neg (by omega), if_neg (by omega), if_neg (by omega), if_neg (by omega), if_neg (by omega), if_neg (fun q => q (head_right _ _ _ _ _ _)), if_neg (by omega), if_neg (by omega)]
/-- a byte of the head changed: it can't be read -/
theorem ipK_spoilt (l : List UInt8) (j : Nat) (x : UInt8) (hl : 20 ≤ l.length) (hj : j < 20) (hx : x ≠ l[j]) (h0 : ipK l = 0) : ipK (l.set j x) ≠ 0 := by
  intro h1
  have c0 := ipK_sum h0
  have c1 := ipK_sum h1
  rw [List.take_set] at c1
  refine chk_changed (l.take 20) j x (by rw [List.length_take]; omega) ?_ c0 c1
  rw [List.getElem_take]; exact hx

theorem udpL_eq (f t fr ta : Int) (load : ByteArray) : udpL f t fr ta load = word8 f ++ word8 t ++ word8 (8 + load.size) ++ word8 (udpC f t fr ta load) ++ load.data.toList := rfl
theorem udpL_length (f t fr ta : Int) (load : ByteArray) : (udpL f t fr ta load).length = 8 + load.size := by
  rw [udpL_eq]; simp [word8]; omega
theorem udpC_ne (f t fr ta : Int) (load : ByteArray) : udpC f t fr ta load ≠ 0 := by
  unfold udpC; split <;> omega
theorem put_append (p l : List UInt8) (k : Nat) (c : Int) : p ++ put16 l k c = put16 (p ++ l) (p.length + k) c := by
  unfold put16
  rw [List.set_append_right _ _ (by omega), List.set_append_right _ _ (by omega)]
  have e1 : p.length + k - p.length = k := by omega
  have e2 : p.length + k + 1 - p.length = k + 1 := by omega
  rw [e1, e2]
theorem udp_right (f t fr ta : Int) (load : ByteArray) : chk (udpP fr ta (8 + load.size) ++ udpL f t fr ta load) = 0 := by
  have e : udpP fr ta (8 + load.size) ++ udpL f t fr ta load = put16 (udpP fr ta (8 + load.size) ++ udp0 f t load) 18 (udpC f t fr ta load) := by
    rw [udpL, put_append]; rfl
  have hlen : (udpP fr ta (8 + (load.size : Int)) ++ udp0 f t load).length = 20 + load.size := by
    rw [List.length_append, Ud.udpP_length]; simp [udp0, word8]; omega
  rw [e, udpC]
  split
  · rename_i hq
    exact chk_put' _ 18 (by omega) rfl rfl rfl hq
  · exact chk_put _ 18 (by omega) rfl rfl rfl
theorem udpW4 (f t fr ta : Int) (load : ByteArray) (hl : load.size ≤ 1472) : w2 (udpL f t fr ta load) 4 = 8 + (load.size : Int) := by
  have b : w2 (udpL f t fr ta load) 4 = 256 * ((by8 ((8 + (load.size : Int)) / 256)).toNat : Int) + ((by8 (8 + (load.size : Int))).toNat : Int) := rfl
  rw [by8_toNat, by8_toNat] at b
  omega
theorem udpW6 (f t fr ta : Int) (load : ByteArray) : w2 (udpL f t fr ta load) 6 = udpC f t fr ta load := by
  have b : w2 (udpL f t fr ta load) 6 = 256 * ((by8 (udpC f t fr ta load / 256)).toNat : Int) + ((by8 (udpC f t fr ta load)).toNat : Int) := rfl
  rw [by8_toNat, by8_toNat] at b
  have := Ud.udpC_bd f t fr ta load
  omega
theorem udK_written (f t fr ta : Int) (load : ByteArray) (hl : load.size ≤ 1472) : udK (udpL f t fr ta load) fr ta = 0 := by
  have e4 := udpW4 f t fr ta load hl
  have tk : (udpL f t fr ta load).take (8 + (load.size : Int)).toNat = udpL f t fr ta load := List.take_of_length_le (by rw [udpL_length]; omega)
  unfold udK
  rw [e4, udpL_length, tk, if_neg (by omega), if_neg (by omega), if_neg (by omega), if_neg (fun q => q.2 (udp_right f t fr ta load))]
/-- a byte of a datagram changed, but of its length: its sum is wrong -/
theorem udK_spoilt (f t fr ta : Int) (load : ByteArray) (k : Nat) (x : UInt8) (hl : load.size ≤ 1472) (hk : k < 8 + load.size) (h4 : k ≠ 4) (h5 : k ≠ 5)
    (hx : x ≠ (udpL f t fr ta load)[k]'(by rw [udpL_length]; exact hk)) (hz : w2 ((udpL f t fr ta load).set k x) 6 ≠ 0) : udK ((udpL f t fr ta load).set k x) fr ta = 6 := by
  have e4 : w2 ((udpL f t fr ta load).set k x) 4 = 8 + (load.size : Int) := by
    rw [← udpW4 f t fr ta load hl]
    unfold w2 bt
    rw [List.getD_eq_getElem?_getD, List.getD_eq_getElem?_getD, List.getElem?_set_ne (by omega), List.getElem?_set_ne (by omega), ← List.getD_eq_getElem?_getD, ← List.getD_eq_getElem?_getD]
  have hlen : ((udpL f t fr ta load).set k x).length = 8 + load.size := by rw [List.length_set, udpL_length]
  have tk : ((udpL f t fr ta load).set k x).take (8 + (load.size : Int)).toNat = (udpL f t fr ta load).set k x := List.take_of_length_le (by rw [hlen]; omega)
  have hc : chk (udpP fr ta (8 + load.size) ++ (udpL f t fr ta load).set k x) ≠ 0 := by
    have e : udpP fr ta (8 + load.size) ++ (udpL f t fr ta load).set k x = (udpP fr ta (8 + load.size) ++ udpL f t fr ta load).set (12 + k) x := by
      rw [List.set_append_right _ _ (by rw [Ud.udpP_length]; omega), Ud.udpP_length]
      have e2 : 12 + k - 12 = k := by omega
      rw [e2]
    rw [e]
    refine chk_changed _ _ _ (by rw [List.length_append, Ud.udpP_length, udpL_length]; omega) ?_ (udp_right f t fr ta load)
    rw [List.getElem_append_right (by rw [Ud.udpP_length]; omega)]
    have e3 : 12 + k - (udpP fr ta (8 + load.size)).length = k := by rw [Ud.udpP_length]; omega
    simp only [e3]
    exact hx
  unfold udK
  rw [e4, hlen, tk, if_neg (by omega), if_neg (by omega), if_neg (by omega), if_pos ⟨hz, hc⟩]
/-- another address: its sum is wrong -/
theorem udK_other (f t : Int) (load : ByteArray) (hl : load.size ≤ 1472) : udK (udpL f t 167772161 167772215 load) 167772161 167772216 = 6 := by
  have e4 := udpW4 f t 167772161 167772215 load hl
  have tk : (udpL f t 167772161 167772215 load).take (8 + (load.size : Int)).toNat = udpL f t 167772161 167772215 load := List.take_of_length_le (by rw [udpL_length]; omega)
  have hz : w2 (udpL f t 167772161 167772215 load) 6 ≠ 0 := by rw [udpW6]; exact udpC_ne _ _ _ _ _
  have hc : chk (udpP 167772161 167772216 (8 + load.size) ++ udpL f t 167772161 167772215 load) ≠ 0 := by
    have e : udpP 167772161 167772216 (8 + load.size) ++ udpL f t 167772161 167772215 load = (udpP 167772161 167772215 (8 + load.size) ++ udpL f t 167772161 167772215 load).set 7 56 := rfl
    rw [e]
    refine chk_changed _ _ _ (by rw [List.length_append, Ud.udpP_length]; omega) ?_ (udp_right f t _ _ load)
    show (56 : UInt8) ≠ by8 (167772215 % 65536)
    decide
  unfold udK
  rw [e4, udpL_length, tk, if_neg (by omega), if_neg (by omega), if_neg (by omega), if_pos ⟨hz, hc⟩]
end Go.Proofs.YtoifihhmneldeaaGreatDoor.Sp

namespace Go.Proofs.YtoifihhmneldeaaGreatDoor.Sp
open Go.ChangeShapes Go.WideShapes Go.ChangeAt Go.RowKit Bs Rd IpK UdK
open Ip (chk chk_bd headL headL_length headL_put ipL)
open Ud (udpP udp0 udpQ udpC udpL)
open Chk (wsum fold wsum_nonneg)
open Wt (put16 put16_length)
set_option linter.unusedVariables false

theorem take_more (a b m : List UInt8) (n : Nat) (h : a.length = n) : (a ++ b ++ m).take n = a := by rw [List.append_assoc, List.take_left' h]
theorem ipM_len (id ttl pr fr ta : Int) (load : ByteArray) (m : List UInt8) : (ipL id ttl pr fr ta load ++ m).length = 20 + load.size + m.length := by rw [List.length_append, ipL_length]
theorem ipM_w2 (id ttl pr fr ta : Int) (load : ByteArray) (m : List UInt8) (hl : load.size ≤ 1480) : w2 (ipL id ttl pr fr ta load ++ m) 2 = 20 + (load.size : Int) := by
  have b2 : w2 (ipL id ttl pr fr ta load ++ m) 2 = 256 * ((by8 ((20 + (load.size : Int)) / 256)).toNat : Int) + ((by8 (20 + (load.size : Int))).toNat : Int) := rfl
  rw [by8_toNat, by8_toNat] at b2
  omega
theorem ipK_more (id ttl pr fr ta : Int) (load : ByteArray) (m : List UInt8) (ht : 0 < ttl ∧ ttl ≤ 255) (hl : load.size ≤ 1480) : ipK (ipL id ttl pr fr ta load ++ m) = 0 := by
  have b0 : bt (ipL id ttl pr fr ta load ++ m) 0 = 69 := rfl
  have b2 := ipM_w2 id ttl pr fr ta load m hl
  have b6 : w2 (ipL id ttl pr fr ta load ++ m) 6 = 256 * ((by8 (16384 / 256)).toNat : Int) + ((by8 16384).toNat : Int) := rfl
  have b8 : bt (ipL id ttl pr fr ta load ++ m) 8 = ((by8 ttl).toNat : Int) := rfl
  rw [by8_toNat, by8_toNat] at b6
  rw [by8_toNat] at b8
  have tk : (ipL id ttl pr fr ta load ++ m).take 20 = headL (20 + load.size) id ttl pr fr ta (chk (headL (20 + load.size) id ttl pr fr ta 0)) := take_more _ _ m 20 (headL_length _ _ _ _ _ _ _)
  unfold ipK
  rw [b0, b2, b6, b8, tk, ipM_len, if_neg (by omega), if_neg (by omega), if_neg (by omega), if_neg (by omega), if_neg (by omega), if_neg (fun q => q (head_right _ _ _ _ _ _)), if_neg (by omega), if_neg (by omega)]
theorem ipM_id (id ttl pr fr ta : Int) (load : ByteArray) (m : List UInt8) (h : 0 ≤ id ∧ id ≤ 65535) : w2 (ipL id ttl pr fr ta load ++ m) 4 = id := by
  have b : w2 (ipL id ttl pr fr ta load ++ m) 4 = 256 * ((by8 (id / 256)).toNat : Int) + ((by8 id).toNat : Int) := rfl
  rw [by8_toNat, by8_toNat] at b
  omega
theorem ipM_ttl (id ttl pr fr ta : Int) (load : ByteArray) (m : List UInt8) (h : 0 ≤ ttl ∧ ttl ≤ 255) : bt (ipL id ttl pr fr ta load ++ m) 8 = ttl := by
  have b : bt (ipL id ttl pr fr ta load ++ m) 8 = ((by8 ttl).toNat : Int) := rfl
  rw [by8_toNat] at b
  omega
theorem ipM_pr (id ttl pr fr ta : Int) (load : ByteArray) (m : List UInt8) (h : 0 ≤ pr ∧ pr ≤ 255) : bt (ipL id ttl pr fr ta load ++ m) 9 = pr := by
  have b : bt (ipL id ttl pr fr ta load ++ m) 9 = ((by8 pr).toNat : Int) := rfl
  rw [by8_toNat] at b
  omega
theorem ipM_fr (id ttl pr fr ta : Int) (load : ByteArray) (m : List UInt8) (h : 0 ≤ fr ∧ fr ≤ 4294967295) : w4 (ipL id ttl pr fr ta load ++ m) 12 = fr := by
  have b : w4 (ipL id ttl pr fr ta load ++ m) 12 = 16777216 * ((by8 (fr / 65536 / 256)).toNat : Int) + 65536 * ((by8 (fr / 65536)).toNat : Int) + 256 * ((by8 (fr % 65536 / 256)).toNat : Int) + ((by8 (fr % 65536)).toNat : Int) := rfl
  rw [by8_toNat, by8_toNat, by8_toNat, by8_toNat] at b
  omega
theorem ipM_ta (id ttl pr fr ta : Int) (load : ByteArray) (m : List UInt8) (h : 0 ≤ ta ∧ ta ≤ 4294967295) : w4 (ipL id ttl pr fr ta load ++ m) 16 = ta := by
  have b : w4 (ipL id ttl pr fr ta load ++ m) 16 = 16777216 * ((by8 (ta / 65536 / 256)).toNat : Int) + 65536 * ((by8 (ta / 65536)).toNat : Int) + 256 * ((by8 (ta % 65536 / 256)).toNat : Int) + ((by8 (ta % 65536)).toNat : Int) := rfl
  rw [by8_toNat, by8_toNat, by8_toNat, by8_toNat] at b
  omega
theorem ipM_ld (id ttl pr fr ta : Int) (load : ByteArray) (m : List UInt8) (hl : load.size ≤ 1480) : ((ipL id ttl pr fr ta load ++ m).drop 20).take ((w2 (ipL id ttl pr fr ta load ++ m) 2).toNat - 20) = load.data.toList := by
  rw [ipM_w2 id ttl pr fr ta load m hl, ipL, List.append_assoc, List.drop_left' (headL_length _ _ _ _ _ _ _), List.take_left' (by rw [len_str]; omega)]
theorem udM_len (f t fr ta : Int) (load : ByteArray) (m : List UInt8) : (udpL f t fr ta load ++ m).length = 8 + load.size + m.length := by rw [List.length_append, udpL_length]
theorem udM_w4 (f t fr ta : Int) (load : ByteArray) (m : List UInt8) (hl : load.size ≤ 1472) : w2 (udpL f t fr ta load ++ m) 4 = 8 + (load.size : Int) := by
  have b : w2 (udpL f t fr ta load ++ m) 4 = 256 * ((by8 ((8 + (load.size : Int)) / 256)).toNat : Int) + ((by8 (8 + (load.size : Int))).toNat : Int) := rfl
  rw [by8_toNat, by8_toNat] at b
  omega
theorem udK_more (f t fr ta : Int) (load : ByteArray) (m : List UInt8) (hl : load.size ≤ 1472) : udK (udpL f t fr ta load ++ m) fr ta = 0 := by
  have e4 := udM_w4 f t fr ta load m hl
  have tk : (udpL f t fr ta load ++ m).take (8 + (load.size : Int)).toNat = udpL f t fr ta load := List.take_left' (by rw [udpL_length]; omega)
  unfold udK
  rw [e4, udM_len, tk, if_neg (by omega), if_neg (by omega), if_neg (by omega), if_neg (fun q => q.2 (udp_right f t fr ta load))]
theorem udM_f (f t fr ta : Int) (load : ByteArray) (m : List UInt8) (h : 0 ≤ f ∧ f ≤ 65535) : w2 (udpL f t fr ta load ++ m) 0 = f := by
  have b : w2 (udpL f t fr ta load ++ m) 0 = 256 * ((by8 (f / 256)).toNat : Int) + ((by8 f).toNat : Int) := rfl
  rw [by8_toNat, by8_toNat] at b
  omega
theorem udM_t (f t fr ta : Int) (load : ByteArray) (m : List UInt8) (h : 0 ≤ t ∧ t ≤ 65535) : w2 (udpL f t fr ta load ++ m) 2 = t := by
  have b : w2 (udpL f t fr ta load ++ m) 2 = 256 * ((by8 (t / 256)).toNat : Int) + ((by8 t).toNat : Int) := rfl
  rw [by8_toNat, by8_toNat] at b
  omega
theorem udM_ld (f t fr ta : Int) (load : ByteArray) (m : List UInt8) (hl : load.size ≤ 1472) : ((udpL f t fr ta load ++ m).drop 8).take ((w2 (udpL f t fr ta load ++ m) 4).toNat - 8) = load.data.toList := by
  have e : udpL f t fr ta load ++ m = (word8 f ++ word8 t ++ word8 (8 + load.size) ++ word8 (udpC f t fr ta load)) ++ (load.data.toList ++ m) := by rw [udpL_eq, List.append_assoc]
  rw [udM_w4 f t fr ta load m hl, e, List.drop_left' (show (word8 f ++ word8 t ++ word8 (8 + load.size) ++ word8 (udpC f t fr ta load)).length = 8 from rfl), List.take_left' (by rw [len_str]; omega)]
end Go.Proofs.YtoifihhmneldeaaGreatDoor.Sp

namespace Go.Proofs.YtoifihhmneldeaaGreatDoor.Sp
open Go.ChangeShapes Go.WideShapes Go.ChangeAt Go.RowKit Bs Rd IpK UdK
open Ip (chk chk_bd headL headL_length headL_put ipL)
open Ud (udpP udp0 udpQ udpC udpL)
set_option linter.unusedVariables false

def pickF (c n : Int) : Int := (if c < 0 then -(c + 1) else c) % n
theorem pickF_bd (c n : Int) (hn : 0 < n) : 0 ≤ pickF c n ∧ pickF c n < n := ⟨Int.emod_nonneg _ (by omega), Int.emod_lt_of_pos _ hn⟩
theorem pick_any (c n : Int) (w : World) (h0 : -9223372036854775808 ≤ c) (h1 : c ≤ 9223372036854775807) (hn : 0 < n) (hn1 : n ≤ 9223372036854775807) :
    Calls Tryz.prog 4 #[.int .i64 c, .int .i64 n] w fun e w' => e = .returned (.int .i64 (pickF c n)) ∧ w' = w := by
  have hn0 : (n == 0) = false := by simp; omega
  by_cases hc : c < 0
  · obtain ⟨d, hd⟩ : ∃ d : Int, d = -(c + 1) := ⟨_, rfl⟩
    have hq1 : IntKind.i64.wrap (c + 1) = c + 1 := by simp [IntKind.wrap, IntKind.bits, IntKind.signed]; omega
    have hq2 : IntKind.i64.wrap (-(c + 1)) = d := by rw [hd]; simp [IntKind.wrap, IntKind.bits, IntKind.signed]; omega
    have hd0 : 0 ≤ d := by omega
    have e : pickF c n = d % n := by unfold pickF; rw [if_pos hc, hd]
    have hb := pickF_bd c n hn
    rw [e] at hb ⊢
    have hq3 : IntKind.i64.wrap (d % n) = d % n := wrap_i64 _ hb.1 (by omega)
    have ht : d.tmod n = d % n := Int.tmod_eq_emod_of_nonneg hd0
    clear e hd
    go_enter Tryz.func4, Tryz.ntmps4
    go_wp2
    go_ret
    exact ⟨rfl, rfl⟩
  · have e : pickF c n = c % n := by unfold pickF; rw [if_neg hc]
    have hb := pickF_bd c n hn
    rw [e] at hb ⊢
    have hq3 : IntKind.i64.wrap (c % n) = c % n := wrap_i64 _ hb.1 (by omega)
    have hc0 : 0 ≤ c := by omega
    have ht : c.tmod n = c % n := Int.tmod_eq_emod_of_nonneg hc0
    clear e
    go_enter Tryz.func4, Tryz.ntmps4
    go_wp2
    go_ret
    exact ⟨rfl, rfl⟩

/-- a byte turned by another that is not 0 -/
def xo (a : UInt8) (r : Nat) : UInt8 := a ^^^ UInt8.ofNat (1 + r)
theorem xo_bits (a : UInt8) (r : Nat) (hr : r < 255) : bits .xor .u8 (a.toNat : Int) (1 + (r : Int)) = ((xo a r).toNat : Int) := by
  have ha := a.toNat_lt
  have e : (1 + (r : Int)) = ((1 + r : Nat) : Int) := by omega
  rw [e, u8_xor_nat _ _ ha (by omega), xo, UInt8.toNat_xor, UInt8.toNat_ofNat', Nat.mod_eq_of_lt (by omega)]
theorem xo_ne (a : UInt8) (r : Nat) (hr : r < 255) : xo a r ≠ a := by
  intro h
  have h2 := congrArg UInt8.toNat h
  rw [xo, UInt8.toNat_xor, UInt8.toNat_ofNat', Nat.mod_eq_of_lt (by omega)] at h2
  have h3 : a.toNat ^^^ (a.toNat ^^^ (1 + r)) = a.toNat ^^^ a.toNat := by rw [h2]
  rw [← Nat.xor_assoc, Nat.xor_self, Nat.zero_xor] at h3
  omega
end Go.Proofs.YtoifihhmneldeaaGreatDoor.Sp
