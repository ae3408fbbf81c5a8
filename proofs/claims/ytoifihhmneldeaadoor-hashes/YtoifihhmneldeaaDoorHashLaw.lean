import Derived.Test.YtoifihhmneldeaaDoorHashSum
import Derived.Test.YtoifihhmneldeaaDoorCards
import Derived.Test.YtoifihhmneldeaaDoorTie
import Derived.WalkKit
import Derived.ProofKit
import Derived.OpenShut
import Derived.ShutString
import Derived.Deep.DeepHandedRow
import Derived.Lib.LaidTab
namespace Go.Proofs.YtoifihhmneldeaaDoor.Hs
open Go.ChangeShapes Go.WideShapes Go.ChangeAt Go.RowKit Hb Ht Hm
set_option linter.unusedVariables false
set_option linter.unusedSimpArgs false

/-- the numbers of the rounds -/
def kL : List Nat := [1116352408, 1899447441, 3049323471, 3921009573, 961987163, 1508970993, 2453635748, 2870763221, 3624381080, 310598401, 607225278, 1426881987, 1925078388, 2162078206, 2614888103, 3248222580, 3835390401, 4022224774, 264347078, 604807628, 770255983, 1249150122, 1555081692, 1996064986, 2554220882, 2821834349, 2952996808, 3210313671, 3336571891, 3584528711, 113926993, 338241895, 666307205, 773529912, 1294757372, 1396182291, 1695183700, 1986661051, 2177026350, 2456956037, 2730485921, 2820302411, 3259730800, 3345764771, 3516065817, 3600352804, 4094571909, 275423344, 430227734, 506948616, 659060556, 883997877, 958139571, 1322822218, 1537002063, 1747873779, 1955562222, 2024104815, 2227730452, 2361852424, 2428436474, 2756734187, 3204031479, 3329325298]
def kN (j : Nat) : Nat := kL.getD j 0
theorem kN_lt (j : Nat) : kN j < 4294967296 := by
  by_cases h : j < 64
  · have q : ∀ i : Fin 64, kN i.val < 4294967296 := by decide +kernel
    exact q ⟨j, h⟩
  · have e : kN j = 0 := by
      unfold kN
      rw [List.getD_eq_getElem?_getD, List.getElem?_eq_none (by show kL.length ≤ j; have : kL.length = 64 := by decide
                                                                omega)]
      rfl
    rw [e]; decide
theorem tabP_len : tabP.length = 64 := by decide +kernel
theorem ks_all : ksF 64 = tabK := by
  unfold ksF
  rw [tab_P, List.take_of_length_le (by rw [tabP_len]; exact Nat.le_refl _), tab_K]
theorem hs_all : hsF 64 = hI st0 := by
  unfold hsF
  rw [tab_P, List.take_of_length_le (by rw [List.length_take]; omega), tab_H]
  rfl
theorem ks_get (j : Nat) (h : j < 64) : tabK.getD j 0 = (kN j : Int) := by
  have q : ∀ i : Fin 64, tabK.getD i.val 0 = (kN i.val : Int) := by decide +kernel
  exact q ⟨j, h⟩
theorem tabK_len : tabK.length = 64 := by decide +kernel

set_option maxHeartbeats 2000000 in
set_option maxRecDepth 10000 in
theorem hashes_walk (s : ByteArray) (w : World) (hG : RG w 2 kN) :
    Calls Tryd.prog 3 #[.string s] w fun e w' => e = .returned (.bool true) ∧ Below w.heap.size w w' := by
  obtain ⟨l, hl⟩ : ∃ l, s.data.toList = l := ⟨_, rfl⟩
  have hz : s.size = l.length := by rw [← hl, Array.length_toList]; rfl
  by_cases h3 : s.size ≤ 262144
  · have hgt : ¬ (262144 : Int) < (s.size : Int) := by omega
    have HH := hide (hash_any s l kN w hl (by omega) hG kN_lt)
    have HS := hide (fun (u : World) (B gp : Nat) (vH vK : Value) (hT : Tb u B gp vH vK (hsF 64) (ksF 64)) => sum_any s l B gp vH vK tabK kN u hl (by omega) (by rw [hs_all, ks_all] at hT; exact hT) tabK_len ks_get kN_lt)
    obtain ⟨sh, hsh⟩ : ∃ sh : ByteArray, sh = ⟨(shaL kN l).toArray⟩ := ⟨_, rfl⟩
    rw [← hsh] at HH HS
    clear hsh hl hz hG
    go_enter Tryd.func3, Tryd.ntmps3
    go_wp2_with fail
    refine (unhide HH).mono ?_
    rintro e w1 ⟨rfl, hb1⟩
    have HB1 := hide hb1
    clear hb1 HH
    go_wp2_with fail
    refine (new_any _).mono ?_
    rintro e w2 ⟨gp, vH, vK, rfl, hT, hb2⟩
    have HS2 := hide (unhide HS _ _ _ _ _ hT)
    have HB2 := hide hb2
    clear hb2 HS hT
    go_wp2_with fail
    refine (unhide HS2).mono ?_
    rintro e w3 ⟨rfl, hb3⟩
    have HB3 := hide hb3
    clear hb3 HS2
    go_wp2
    go_ret
    exact ⟨by simp, ((unhide HB1).trans ((unhide HB2).mono (unhide HB1).size)).trans ((unhide HB3).mono (Nat.le_trans (unhide HB1).size (unhide HB2).size))⟩
  · have hgt : (262144 : Int) < (s.size : Int) := by omega
    go_enter Tryd.func3, Tryd.ntmps3
    go_wp2
    go_ret
    exact ⟨rfl, Below.refl _ _⟩
end Go.Proofs.YtoifihhmneldeaaDoor.Hs
