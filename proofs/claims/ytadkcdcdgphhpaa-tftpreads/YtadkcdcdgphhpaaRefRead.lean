import Derived.Test.YtadkcdcdgphhpaaReader
namespace Go.Proofs.Ytadkcdcdgphhpaa.Rr
open Go.ChangeShapes Go.WideShapes Go.ChangeAt Go.RowKit Bs Rd
set_option linter.unusedVariables false

/-- the number of bytes, the highest first -/
def ofL (l : List UInt8) : Int := l.foldl (fun n b => 256 * n + (b.toNat : Int)) 0
theorem ofL_snoc (l : List UInt8) (b : UInt8) : ofL (l ++ [b]) = 256 * ofL l + (b.toNat : Int) := by simp [ofL]
theorem ofL_nonneg (l : List UInt8) : 0 ≤ ofL l := by
  suffices h : ∀ (l : List UInt8) (n : Int), 0 ≤ n → 0 ≤ l.foldl (fun n b => 256 * n + (b.toNat : Int)) n from h l 0 (by omega)
  intro l
  induction l with
  | nil => intro n h; simpa using h
  | cons b r ih => intro n h; exact ih (256 * n + (b.toNat : Int)) (by omega)
theorem ofL_lt (l : List UInt8) : ofL l < 256 ^ l.length := by
  suffices h : ∀ (l : List UInt8) (n c : Int), n < c → l.foldl (fun n b => 256 * n + (b.toNat : Int)) n < c * 256 ^ l.length by
    have := h l 0 1 (by omega)
    simpa [ofL] using this
  intro l
  induction l with
  | nil => intro n c h; simpa using h
  | cons b r ih =>
    intro n c h
    have hb := b.toNat_lt
    have := ih (256 * n + (b.toNat : Int)) (c * 256) (by omega)
    rw [List.foldl_cons, List.length_cons, Int.pow_succ']
    rw [← Int.mul_assoc]
    exact this
theorem ofL_small (l : List UInt8) (k : Nat) (hk : k ≤ 4) (hl : l.length ≤ 4) : ofL (l.take k) < 4294967296 := by
  have h := ofL_lt (l.take k)
  have e : (256 : Int) ^ (l.take k).length ≤ 256 ^ 4 := by
    have : (l.take k).length ≤ 4 := by rw [List.length_take]; omega
    generalize (l.take k).length = n at this
    match n, this with
    | 0, _ => decide
    | 1, _ => decide
    | 2, _ => decide
    | 3, _ => decide
    | 4, _ => decide
  omega

theorem take_snoc (s : ByteArray) (k : Nat) (h : k < s.size) : s.data.toList.take (k + 1) = s.data.toList.take k ++ [s[k]] := by
  rw [List.take_succ_eq_append_getElem (by simpa using h)]; rfl

set_option maxHeartbeats 400000 in
theorem of_any (s : ByteArray) (w : World) (hs : s.size ≤ 4) :
    Calls Try.prog 45 #[.string s] w fun e w' => e = .returned (.int .i64 (ofL s.data.toList)) ∧ w' = w := by
  go_enter Try.func45, Try.ntmps45
  go_wp2
  go_loop [3, 4] (fun n i => ∃ k : Nat, k ≤ s.size ∧ i = .int .i64 k ∧ n = .int .i64 (ofL (s.data.toList.take k))) (fun _ i => s.size - (intOf i).toNat)
  case atStart => exact ⟨0, Nat.zero_le _, rfl, rfl⟩
  case round =>
    obtain ⟨k, hk, rfl, rfl⟩ := hrel
    have h0 := ofL_nonneg (s.data.toList.take k)
    have h1 := ofL_small s.data.toList k (by omega) (by rw [len_str]; exact hs)
    by_cases hlt : k < s.size
    · have HS : Hid (ofL (s.data.toList.take (k + 1)) = 256 * ofL (s.data.toList.take k) + (s[k].toNat : Int)) := hide (by rw [take_snoc s k hlt]; exact ofL_snoc _ _)
      have hb : s[k].toNat < 256 := s[k].toNat_lt
      go_wp2
      go_round
      case rel => exact ⟨k + 1, by omega, by go_num, by rw [unhide HS]⟩
      case measure => simp [intOf]; omega
    · go_wp2
      go_ret
      exact ⟨ret_int (by rw [List.take_of_length_le (by rw [len_str]; omega)]), rfl⟩

set_option maxHeartbeats 1000000 in
theorem macOf_all (a b c d e f : UInt8) (r : List UInt8) (w : World) :
    Calls Try.prog 44 #[.string ⟨(a :: b :: c :: d :: e :: f :: r).toArray⟩] w fun ee w' => ee = .returned (.agg #[.int .u8 a.toNat, .int .u8 b.toNat, .int .u8 c.toNat, .int .u8 d.toNat, .int .u8 e.toNat, .int .u8 f.toNat]) ∧ Below w.heap.size w w' := by
  obtain ⟨s, hS⟩ : ∃ s : ByteArray, s = ⟨(a :: b :: c :: d :: e :: f :: r).toArray⟩ := ⟨_, rfl⟩
  have i0 : ∀ u, (Instr.index 9 (.string s) (.int .i64 0)).run Try.prog u = .ok (.int .u8 a.toNat) u := fun _ => by rw [hS]; kernel_rfl
  have i1 : ∀ u, (Instr.index 9 (.string s) (.int .i64 1)).run Try.prog u = .ok (.int .u8 b.toNat) u := fun _ => by rw [hS]; kernel_rfl
  have i2 : ∀ u, (Instr.index 9 (.string s) (.int .i64 2)).run Try.prog u = .ok (.int .u8 c.toNat) u := fun _ => by rw [hS]; kernel_rfl
  have i3 : ∀ u, (Instr.index 9 (.string s) (.int .i64 3)).run Try.prog u = .ok (.int .u8 d.toNat) u := fun _ => by rw [hS]; kernel_rfl
  have i4 : ∀ u, (Instr.index 9 (.string s) (.int .i64 4)).run Try.prog u = .ok (.int .u8 e.toNat) u := fun _ => by rw [hS]; kernel_rfl
  have i5 : ∀ u, (Instr.index 9 (.string s) (.int .i64 5)).run Try.prog u = .ok (.int .u8 f.toNat) u := fun _ => by rw [hS]; kernel_rfl
  rw [← hS]
  clear hS
  go_enter Try.func44, Try.ntmps44
  go_wp2
  refine wp_loop_rounds 7 ?_
  rw [rounds_succ]
  go_wp2
  iterate 5 (rw [rounds_succ]; go_wp2)
  rw [rounds_succ]
  go_wp2
  exact bodyPost_ret (v := .agg #[.int .u8 a.toNat, .int .u8 b.toNat, .int .u8 c.toNat, .int .u8 d.toNat, .int .u8 e.toNat, .int .u8 f.toNat]) (by simp [results, Try.results44, go_sem]) rfl ⟨rfl, ((Below.refl _ _).alloc (Nat.le_refl _) _).alloc (by simp) _⟩
theorem macOf_any (a b c d e f : UInt8) (r : List UInt8) (w : World) (_hs : r.length ≤ 1099511627776) :
    Calls Try.prog 44 #[.string ⟨(a :: b :: c :: d :: e :: f :: r).toArray⟩] w fun ee w' => ee = .returned (.agg #[.int .u8 a.toNat, .int .u8 b.toNat, .int .u8 c.toNat, .int .u8 d.toNat, .int .u8 e.toNat, .int .u8 f.toNat]) ∧ Below w.heap.size w w' := macOf_all a b c d e f r w
end Go.Proofs.Ytadkcdcdgphhpaa.Rr
