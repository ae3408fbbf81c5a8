import Derived.Test.YtoifihhmneldeaaDoorHashOf
import Derived.Test.YtoifihhmneldeaaDoorHashNew
import Derived.Test.YtoifihhmneldeaaDoorHashTable
namespace Go.Proofs.YtoifihhmneldeaaDoor.Hs
open Go.ChangeShapes Go.WideShapes Go.ChangeAt Go.RowKit Hb Ht Hm
set_option linter.unusedVariables false
set_option linter.unusedSimpArgs false

theorem add_str (a b : List UInt8) : (⟨a.toArray⟩ : ByteArray) ++ (⟨b.toArray⟩ : ByteArray) = ⟨(a ++ b).toArray⟩ := by
  apply ByteArray.ext
  simp [ByteArray.data_append]
theorem str_size (a : List UInt8) : (⟨a.toArray⟩ : ByteArray).size = a.length := by simp [ByteArray.size]
theorem wrap64s (n : Int) (h0 : -9223372036854775808 ≤ n) (h1 : n ≤ 9223372036854775807) : IntKind.i64.wrap n = n := by
  simp [IntKind.wrap, IntKind.bits, IntKind.signed]; omega
theorem byte_str (w : World) (x : UInt8) (y : Int) (h : ((x.toNat : Nat) : Int) = y) : (convert 46 9 (.slice (some ⟨w.heap.size, 0, none⟩) 1 1)).run Tryd.prog (w.alloc (.cells #[.int .u8 y] 5)) = .ok (.string ⟨#[x]⟩) (w.alloc (.cells #[.int .u8 y] 5)) := by
  subst h
  have q := run_convert_bytes_back (P := Tryd.prog) (w.alloc (.cells #[.int .u8 x.toNat] 5)) 46 9 5 ⟨w.heap.size, 0, none⟩ 1 [x] Tryd.underlying46 Tryd.underlying5 Tryd.underlying9 (fun j hj => Bs.cell_new w [.int .u8 x.toNat] 5 j _ (by
    match j, hj with
    | 0, _ => rfl))
  exact q
theorem below_drewN {N : Nat} {a w : World} (h : Below N a w) (n : Nat) : Below N a (w.drewN n) := ⟨h.os, h.tape, h.output, h.size, h.block⟩
def strN : Value → Nat
  | .string s => s.size
  | _ => 0
/-- a state's words as numbers of the reference row -/
def hI (t : St) : List Int := [t.a, t.b, t.c, t.d, t.e, t.f, t.g, t.h]
theorem hI_length (t : St) : (hI t).length = 8 := rfl
/-- the words of a block, as the reference's numbers -/
def wI (b : List UInt8) (i : Nat) : List Int := (wordsL b i).map Int.ofNat
theorem wI_length (b : List UInt8) (i : Nat) : (wI b i).length = i := by simp [wI, wordsL_length]
theorem wI_get (b : List UInt8) (i j : Nat) (h : j < i) : (wI b i).getD j 0 = (wordF b j : Int) := by
  have q := wordsL_get b j i h
  have hl := wordsL_length b i
  rw [List.getD_eq_getElem?_getD, List.getElem?_eq_getElem (by omega)] at q
  rw [List.getD_eq_getElem?_getD, wI, List.getElem?_map, List.getElem?_eq_getElem (by omega), ← q]
  rfl
theorem wordsL_next (b : List UInt8) (i : Nat) : wordsL b (i + 1) = wordsL b i ++ [wordF b i] := by
  apply List.ext_getElem?
  intro j
  have hl := wordsL_length b i
  have hl1 := wordsL_length b (i + 1)
  by_cases hj : j < i
  · have q1 := wordsL_get b j (i + 1) (by omega)
    have q2 := wordsL_get b j i hj
    rw [List.getD_eq_getElem?_getD, List.getElem?_eq_getElem (by omega)] at q1 q2
    rw [List.getElem?_append_left (by omega), List.getElem?_eq_getElem (by omega), List.getElem?_eq_getElem (by omega)]
    simp at q1 q2
    rw [q1, q2]
  · by_cases e : j = i
    · subst e
      have q1 := wordsL_get b j (j + 1) (by omega)
      rw [List.getD_eq_getElem?_getD, List.getElem?_eq_getElem (by omega)] at q1
      rw [List.getElem?_append_right (by omega), hl, List.getElem?_eq_getElem (by omega)]
      simp at q1 ⊢
      exact q1
    · rw [List.getElem?_eq_none (by omega), List.getElem?_eq_none (by simp; omega)]
theorem wI_next (b : List UInt8) (i : Nat) : wI b (i + 1) = wI b i ++ [(wordF b i : Int)] := by rw [wI, wordsL_next, List.map_append]; rfl
theorem own_row_at {w : World} {base : Nat} {v : Value} {L : List Int} {n : Nat} (h : w.ownsRow base 3 1 v L.length (c64 L)) (hn : L.length = n) (h0 : 0 < n) : ∃ g cap, v = .slice (some ⟨g, 0, none⟩) n cap ∧ base ≤ g ∧ Row w g L := by
  subst hn
  exact own_row h h0
theorem row_news {w : World} {g : Nat} {L : List Int} (h : Row w g L) : ∀ j u, (c64 L)[j]? = some u → w.cell? ((⟨g, 0, none⟩ : Addr).add j) = some u := by
  intro j u hu
  have hj : j < L.length := by
    have := (List.getElem?_eq_some_iff.1 hu).1
    simpa [c64] using this
  rw [c64_get L j hj] at hu
  rw [Bs.add_lit', h.cell j hj]; exact hu
theorem one_all (L : List Int) : ∀ u ∈ c64 L, u.oneCell' = true := by
  intro u hu
  simp only [c64, List.mem_map] at hu
  obtain ⟨x, _, rfl⟩ := hu
  rfl
/-- index of a text, byte by byte -/
theorem idx_get (s : ByteArray) (l : List UInt8) (hsl : s.data.toList = l) (k : Nat) (hk : k < l.length) (x : Int) (hx : x = k) (u : World) : (Instr.index 9 (.string s) (.int .i64 x)).run Tryd.prog u = .ok (.int .u8 (l.getD k 0).toNat) u := by
  subst hx
  have hz : s.size = l.length := by rw [← hsl, Array.length_toList]; rfl
  have h2 : (k : Int) < (s.size : Int) := by omega
  have hk' : k < s.size := by omega
  have h3 : s[k] = l.getD k 0 := by
    have hk2 : k < s.data.size := hk'
    have q : s.data[k]? = l[k]? := by rw [← hsl, Array.getElem?_toList]
    rw [Array.getElem?_eq_getElem hk2, List.getElem?_eq_getElem hk] at q
    rw [List.getD_eq_getElem?_getD, List.getElem?_eq_getElem hk]
    exact Option.some.inj q
  simp [Instr.index, run_underlying Tryd.underlying9, asIntOf, h2, hk', go_sem, h3]
theorem be_word (b : List UInt8) (i : Nat) (hi : i < 16) : (((b.getD (4 * i) 0).toNat : Int) * 16777216 + ((b.getD (4 * i + 1) 0).toNat : Int) * 65536 + ((b.getD (4 * i + 2) 0).toNat : Int) * 256 + ((b.getD (4 * i + 3) 0).toNat : Int)) = (wordF b i : Int) := by
  rw [wordF_low b i hi, be_4]
  generalize (b.getD (4 * i) 0).toNat = x0
  generalize (b.getD (4 * i + 1) 0).toNat = x1
  generalize (b.getD (4 * i + 2) 0).toNat = x2
  generalize (b.getD (4 * i + 3) 0).toNat = x3
  omega
theorem hI_get (t : St) (n : Nat) (h : n < 8) : (hI t).getD n 0 = (at8 t n : Int) := by
  match n, h with
  | 0, _ => rfl
  | 1, _ => rfl
  | 2, _ => rfl
  | 3, _ => rfl
  | 4, _ => rfl
  | 5, _ => rfl
  | 6, _ => rfl
  | 7, _ => rfl
/-- eight words, the first n of them with others added -/
def plI (t u : St) (n : Nat) : List Int := (List.range 8).map fun j => ((if j < n then (at8 t j + at8 u j) % 4294967296 else at8 t j : Nat) : Int)
theorem plI_length (t u : St) (n : Nat) : (plI t u n).length = 8 := by simp [plI]
theorem plI_zero (t u : St) : plI t u 0 = hI t := by simp [plI, hI, at8, List.range, List.range.loop]
theorem plI_all (t u : St) : plI t u 8 = hI (t.plus u) := by simp [plI, hI, at8, List.range, List.range.loop, St.plus]
theorem plI_get (t u : St) (n : Nat) (h : n < 8) : (plI t u n).getD n 0 = (at8 t n : Int) := by simp [plI, h]
theorem plI_set (t u : St) (n : Nat) (h : n < 8) : (plI t u n).set n (((at8 t n + at8 u n) % 4294967296 : Nat) : Int) = plI t u (n + 1) := by
  apply List.ext_getElem?
  intro j
  by_cases hj : j < 8
  · have e1 : (plI t u (n + 1))[j]? = some ((if j < n + 1 then (at8 t j + at8 u j) % 4294967296 else at8 t j : Nat) : Int) := by simp [plI, hj]
    have e0 : (plI t u n)[j]? = some ((if j < n then (at8 t j + at8 u j) % 4294967296 else at8 t j : Nat) : Int) := by simp [plI, hj]
    rw [e1]
    by_cases e : n = j
    · subst e
      rw [List.getElem?_set_self (by rw [plI_length]; exact h), if_pos (by omega)]
    · rw [List.getElem?_set_ne e, e0]
      have : (j < n) = (j < n + 1) := by simp only [eq_iff_iff]; omega
      simp only [this]
  · rw [List.getElem?_eq_none (by rw [List.length_set, plI_length]; omega), List.getElem?_eq_none (by rw [plI_length]; omega)]
theorem at8_lt (t : St) (h : t.ok) (n : Nat) : at8 t n < 4294967296 := by
  obtain ⟨h1, h2, h3, h4, h5, h6, h7, h8⟩ := h
  unfold at8
  split <;> assumption
/-- four bytes more of a digest -/
theorem sha_next (K : Nat → Nat) (l : List UInt8) (n : Nat) (h : n < 8) (x : Nat) (hx : x = at8 (sumS K l) n) : (shaL K l).take (4 * (n + 1)) = (shaL K l).take (4 * n) ++ [UInt8.ofNat (x / 16777216 % 256), UInt8.ofNat (x / 65536 % 256), UInt8.ofNat (x / 256 % 256), UInt8.ofNat (x % 256)] := by
  have hg : ∀ j, j < 4 → (shaL K l)[4 * n + j]? = some (UInt8.ofNat (x / 2 ^ (24 - 8 * j) % 256)) := fun j hj => by
    have e1 : (4 * n + j) / 4 = n := by omega
    have e2 : (4 * n + j) % 4 = j := by omega
    simp only [shaL, List.getElem?_map]
    rw [List.getElem?_range (by omega)]
    simp only [Option.map_some, byF, e1, e2, ← hx]
  have hl := shaL_length K l
  apply List.ext_getElem?
  intro j
  by_cases hj : j < 4 * n
  · rw [List.getElem?_take, if_pos (by omega), List.getElem?_append_left (by rw [List.length_take]; omega), List.getElem?_take, if_pos hj]
  · by_cases hj4 : j < 4 * n + 4
    · rw [List.getElem?_take, if_pos (by omega), List.getElem?_append_right (by rw [List.length_take]; omega), List.length_take, show min (4 * n) (shaL K l).length = 4 * n by omega]
      obtain ⟨i, rfl⟩ : ∃ i, j = 4 * n + i := ⟨j - 4 * n, by omega⟩
      rw [hg i (by omega), show 4 * n + i - 4 * n = i by omega]
      match i, (show i < 4 by omega) with
      | 0, _ => rfl
      | 1, _ => rfl
      | 2, _ => rfl
      | 3, _ => simp
    · rw [List.getElem?_eq_none (by rw [List.length_take]; omega), List.getElem?_eq_none (by rw [List.length_append, List.length_take]; simp; omega)]
theorem by_num (x d : Nat) : (((UInt8.ofNat (x / d % 256)).toNat : Nat) : Int) = (x : Int) / (d : Int) % 256 := by
  rw [UInt8.toNat_ofNat_of_lt' (by show _ < 256; exact Nat.mod_lt _ (by decide)), ← Int.natCast_ediv]
  omega
theorem by_num1 (x : Nat) : (((UInt8.ofNat (x % 256)).toNat : Nat) : Int) = (x : Int) % 256 := by
  rw [UInt8.toNat_ofNat_of_lt' (by show _ < 256; exact Nat.mod_lt _ (by decide))]
  omega
theorem four_str (w : World) (x : Nat) : (convert 46 9 (.slice (some ⟨w.heap.size, 0, none⟩) 4 4)).run Tryd.prog (w.alloc (.cells #[.int .u8 ((x : Int) / 16777216 % 256), .int .u8 ((x : Int) / 65536 % 256), .int .u8 ((x : Int) / 256 % 256), .int .u8 ((x : Int) % 256)] 5)) = .ok (.string ⟨#[UInt8.ofNat (x / 16777216 % 256), UInt8.ofNat (x / 65536 % 256), UInt8.ofNat (x / 256 % 256), UInt8.ofNat (x % 256)]⟩) (w.alloc (.cells #[.int .u8 ((x : Int) / 16777216 % 256), .int .u8 ((x : Int) / 65536 % 256), .int .u8 ((x : Int) / 256 % 256), .int .u8 ((x : Int) % 256)] 5)) := by
  have e0 := by_num x 16777216
  have e1 := by_num x 65536
  have e2 := by_num x 256
  have e3 := by_num1 x
  rw [show ((16777216 : Nat) : Int) = 16777216 from rfl] at e0
  rw [show ((65536 : Nat) : Int) = 65536 from rfl] at e1
  rw [show ((256 : Nat) : Int) = 256 from rfl] at e2
  rw [← e0, ← e1, ← e2, ← e3]
  exact run_convert_bytes_back (P := Tryd.prog) _ 46 9 5 ⟨w.heap.size, 0, none⟩ 4 [UInt8.ofNat (x / 16777216 % 256), UInt8.ofNat (x / 65536 % 256), UInt8.ofNat (x / 256 % 256), UInt8.ofNat (x % 256)] Tryd.underlying46 Tryd.underlying5 Tryd.underlying9 (fun j hj => Bs.cell_new w [.int .u8 (UInt8.ofNat (x / 16777216 % 256)).toNat, .int .u8 (UInt8.ofNat (x / 65536 % 256)).toNat, .int .u8 (UInt8.ofNat (x / 256 % 256)).toNat, .int .u8 (UInt8.ofNat (x % 256)).toNat] 5 j _ (by
    match j, hj with
    | 0, _ => rfl
    | 1, _ => rfl
    | 2, _ => rfl
    | 3, _ => rfl))
end Go.Proofs.YtoifihhmneldeaaDoor.Hs
