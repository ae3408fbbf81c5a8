import Derived.Test.YtoifihhmneldeaaGreatDoorBase
import Derived.Defers
import Derived.Recover
namespace Go.Proofs.YtoifihhmneldeaaGreatDoor.Rd
open Go.ChangeShapes Go.WideShapes Go.ChangeAt Go.RowKit Bs
set_option linter.unusedVariables false

/-- a panic with an error number -/
def errP (k : Int) : List PanicEntry := [{ v := .iface 28 (.int .i64 k), recovered := false }]
/-- a reader in block B, with l still to be read -/
def Rdr (w : World) (B : Nat) (l : List UInt8) : Prop := w.heap[B]? = some (.cells #[.string ⟨l.toArray⟩] 99 (0, 0))
theorem str_size (l : List UInt8) : (⟨l.toArray⟩ : ByteArray).size = l.length := by show l.toArray.size = _; simp
theorem str_eta (s : ByteArray) : (⟨s.data.toList.toArray⟩ : ByteArray) = s := by cases s; rfl
theorem str_take (l : List UInt8) (n : Nat) : (⟨l.toArray⟩ : ByteArray).extract 0 n = ⟨(l.take n).toArray⟩ := by
  apply ByteArray.ext
  rw [ByteArray.data_extract]
  apply Array.ext'
  simp
theorem str_drop (l : List UInt8) (n : Nat) : (⟨l.toArray⟩ : ByteArray).extract n (⟨l.toArray⟩ : ByteArray).size = ⟨(l.drop n).toArray⟩ := by
  apply ByteArray.ext
  rw [ByteArray.data_extract, str_size]
  apply Array.ext'
  simp
  rw [List.take_of_length_le (by simp)]
theorem Rdr.set {w : World} {B : Nat} {l : List UInt8} (h : Rdr w B l) (m : List UInt8) : Rdr (w.setCell ⟨B, 0, none⟩ (.string ⟨m.toArray⟩)) B m := one_setCell h
theorem Rdr.lt {w : World} {B : Nat} {l : List UInt8} (h : Rdr w B l) : B < w.heap.size := lt_of_block h
theorem Rdr.alloc {w : World} {B : Nat} {l : List UInt8} (h : Rdr w B l) (o : Obj) : Rdr (w.alloc o) B l := by
  unfold Rdr; rw [Below.heap_alloc _ _ _ h.lt]; exact h
theorem Rdr.drew {w : World} {B : Nat} {l : List UInt8} (h : Rdr w B l) : Rdr w.drew B l := h

/-- what a method of a reader in B leaves: new blocks, and B -/
theorem grown_set {w : World} {B : Nat} (v : Value) : w.grownBy (w.setCell ⟨B, 0, none⟩ v) (some B) :=
  ⟨rfl, rfl, rfl, by simp [World.setCell], fun k _ hk => Below.heap_setCell _ _ _ _ (fun e => hk (by rw [e]))⟩
theorem grown_refl (w : World) (r : Option Nat) : w.grownBy w r := ⟨rfl, rfl, rfl, Nat.le_refl _, fun _ _ _ => rfl⟩
theorem grown_trans {a b c : World} {r : Option Nat} (h : a.grownBy b r) (k : b.grownBy c r) : a.grownBy c r :=
  ⟨k.os.trans h.os, k.tape.trans h.tape, k.output.trans h.output, Nat.le_trans h.size k.size, fun i hi hr => (k.block i (Nat.lt_of_lt_of_le hi h.size) hr).trans (h.block i hi hr)⟩
theorem grown_alloc {a w : World} {r : Option Nat} (h : a.grownBy w r) (o : Obj) : a.grownBy (w.alloc o) r := grown_trans h (World.grownBy_alloc w o r)
theorem grown_drew {a w : World} {r : Option Nat} (h : a.grownBy w r) : a.grownBy w.drew r := ⟨h.os, h.tape, h.output, h.size, h.block⟩
theorem grown_drewN {a w : World} {r : Option Nat} (h : a.grownBy w r) (n : Nat) : a.grownBy (w.drewN n) r := ⟨h.os, h.tape, h.output, h.size, h.block⟩
theorem grown_below {a w w' : World} {r : Option Nat} (h : a.grownBy w r) (hb : Below w.heap.size w w') : a.grownBy w' r :=
  ⟨hb.os.trans h.os, hb.tape.trans h.tape, hb.output.trans h.output, Nat.le_trans h.size hb.size, fun i hi hr => (hb.block i (Nat.lt_of_lt_of_le hi h.size)).trans (h.block i hi hr)⟩
theorem grown_cells {w w' : World} {B : Nat} (h : w.grownBy w' (some B)) : ∀ b o, b < w.heap.size → b ≠ B → w'.cell? ⟨b, o, none⟩ = w.cell? ⟨b, o, none⟩ :=
  fun b o hb hne => World.cell?_of_block (w := w) (a := ⟨b, o, none⟩) (h.block b hb (fun e => hne (by simpa using e)))
theorem grown_frozen {w w' : World} {B : Nat} (h : w.grownBy w' (some B)) : ∀ b o, b < w.heap.size → b ≠ B → w'.frozen? ⟨b, o, none⟩ = w.frozen? ⟨b, o, none⟩ :=
  fun b o hb hne => World.frozen?_of_block (w := w) (a := ⟨b, o, none⟩) (h.block b hb (fun e => hne (by simpa using e)))

theorem must_ok (k : Int) (w : World) :
    Calls Tryz.prog 62 #[.bool true, .int .i64 k] w fun e w' => e = .returned (.tuple #[]) ∧ w' = w := by
  go_enter Tryz.func62, Tryz.ntmps62
  go_wp2
  go_end0
  exact ⟨rfl, rfl⟩
theorem must_no (k : Int) (w : World) :
    Calls Tryz.prog 62 #[.bool false, .int .i64 k] w fun e w' => e = .panicked (errP k) ∧ w' = w := by
  go_enter Tryz.func62, Tryz.ntmps62
  go_wp2
  exact ⟨rfl, rfl, rfl⟩
theorem must_if (p : Bool) (h : p = true) (k : Int) (w : World) :
    Calls Tryz.prog 62 #[.bool p, .int .i64 k] w fun e w' => e = .returned (.tuple #[]) ∧ w' = w := by subst h; exact must_ok k w
theorem must_else (p : Bool) (h : p = false) (k : Int) (w : World) :
    Calls Tryz.prog 62 #[.bool p, .int .i64 k] w fun e w' => e = .panicked (errP k) ∧ w' = w := by subst h; exact must_no k w
theorem need_ok (B : Nat) (l : List UInt8) (n : Int) (w : World) (h : Rdr w B l) (hn : n ≤ l.length) :
    Calls Tryz.prog 59 #[.pointer (some ⟨B, 0, none⟩), .int .i64 n] w fun e w' => e = .returned (.tuple #[]) ∧ w' = w := by
  have hc := cell_of_one h
  have hz := str_size l
  clear h
  go_enter Tryz.func59, Tryz.ntmps59
  go_wp2_with fail
  refine (must_if _ (by simp <;> omega) _ _).mono ?_
  rintro e w1 ⟨rfl, rfl⟩
  go_wp2
  go_end0
  exact ⟨rfl, rfl⟩
theorem need_no (B : Nat) (l : List UInt8) (n : Int) (w : World) (h : Rdr w B l) (hn : (l.length : Int) < n) :
    Calls Tryz.prog 59 #[.pointer (some ⟨B, 0, none⟩), .int .i64 n] w fun e w' => e = .panicked (errP 1) ∧ w' = w := by
  have hc := cell_of_one h
  have hz := str_size l
  clear h
  go_enter Tryz.func59, Tryz.ntmps59
  go_wp2_with fail
  refine (must_else _ (by simp <;> omega) _ _).mono ?_
  rintro e w1 ⟨rfl, rfl⟩
  exact ⟨rfl, rfl, rfl⟩
theorem take_no (B : Nat) (l : List UInt8) (n : Int) (w : World) (h : Rdr w B l) (hn : (l.length : Int) < n) :
    Calls Tryz.prog 80 #[.pointer (some ⟨B, 0, none⟩), .int .i64 n] w fun e w' => e = .panicked (errP 1) ∧ w' = w := by
  have HN := hide (need_no B l n w h hn)
  clear h
  go_enter Tryz.func80, Tryz.ntmps80
  go_wp2_with fail
  refine (unhide HN).mono ?_
  rintro e w1 ⟨rfl, rfl⟩
  exact ⟨rfl, rfl, rfl⟩
theorem take_ok (B : Nat) (l : List UInt8) (n : Nat) (w : World) (h : Rdr w B l) (hn : n ≤ l.length) (hs : l.length ≤ maxLen) :
    Calls Tryz.prog 80 #[.pointer (some ⟨B, 0, none⟩), .int .i64 n] w fun e w' => e = .returned (.string ⟨(l.take n).toArray⟩) ∧ w' = w.setCell ⟨B, 0, none⟩ (.string ⟨(l.drop n).toArray⟩) := by
  unfold maxLen at hs
  have HN := hide (need_ok B l n w h (by omega))
  have hc := cell_of_one h
  have hf := free_of_one h
  obtain ⟨s, hS⟩ : ∃ s : ByteArray, s = ⟨l.toArray⟩ := ⟨_, rfl⟩
  have hz : s.size = l.length := by rw [hS]; exact str_size l
  rw [← str_take, ← str_drop]
  rw [← hS] at hc ⊢
  have hb : (n : Int) ≤ (s.size : Int) := by omega
  have hs1 : s.size ≤ 2 ^ 63 - 1 := by omega
  clear h hS hz hn hs
  go_enter Tryz.func80, Tryz.ntmps80
  go_wp2_with fail
  refine (unhide HN).mono ?_
  rintro e w1 ⟨rfl, rfl⟩
  go_wp2
  go_ret
  exact ⟨rfl, rfl⟩

theorem word_no (B : Nat) (l : List UInt8) (w : World) (h : Rdr w B l) (hn : l.length < 2) :
    Calls Tryz.prog 54 #[.pointer (some ⟨B, 0, none⟩)] w fun e w' => e = .panicked (errP 1) ∧ w' = w := by
  have HN := hide (take_no B l 2 w h (by omega))
  clear h
  go_enter Tryz.func54, Tryz.ntmps54
  go_wp2_with fail
  refine (unhide HN).mono ?_
  rintro e w1 ⟨rfl, rfl⟩
  exact ⟨rfl, rfl, rfl⟩

theorem u16_word (a b : Nat) (ha : a < 256) (hb : b < 256) :
    bits .or .u16 ((a : Int) * 256) (b : Int) = 256 * (a : Int) + (b : Int) := by
  have e1 : (a : Int) * 256 = ((256 * a : Nat) : Int) := by omega
  rw [e1, u16_or_nat _ _ (by omega) (by omega), nat_join 8 _ _ (by omega) (by omega)]
  omega

theorem u32_words (x y : Int) (h0 : 0 ≤ x) (h1 : x ≤ 65535) (h2 : 0 ≤ y) (h3 : y ≤ 65535) : bits .or .u32 (x * 65536) y = x * 65536 + y := by
  have e1 : x * 65536 = ((65536 * x.toNat : Nat) : Int) := by omega
  have e2 : y = (y.toNat : Int) := by omega
  rw [e1, e2, u32_or_nat _ _ (by omega) (by omega), nat_join 16 _ _ (by omega) (by omega)]
  omega

set_option maxHeartbeats 400000 in
theorem word_ok (B : Nat) (a b : UInt8) (l : List UInt8) (w : World) (h : Rdr w B (a :: b :: l)) (hs : (a :: b :: l).length ≤ maxLen) :
    Calls Tryz.prog 54 #[.pointer (some ⟨B, 0, none⟩)] w fun e w' => e = .returned (.int .u16 (256 * (a.toNat : Int) + (b.toNat : Int))) ∧ Rdr w' B l ∧ w.grownBy w' (some B) := by
  have HN := hide (take_ok B (a :: b :: l) 2 w h (by simp) hs)
  have HR := hide (h.set l)
  have ha : a.toNat < 256 := a.toNat_lt
  have hb : b.toNat < 256 := b.toNat_lt
  clear h hs
  go_enter Tryz.func54, Tryz.ntmps54
  go_wp2_with fail
  refine (unhide HN).mono ?_
  rintro e w1 ⟨rfl, rfl⟩
  have i0 : ∀ u, (Instr.index 9 (.string ⟨#[a, b]⟩) (.int .i64 0)).run Tryz.prog u = .ok (.int .u8 a.toNat) u := fun _ => by kernel_rfl
  have i1 : ∀ u, (Instr.index 9 (.string ⟨#[a, b]⟩) (.int .i64 1)).run Tryz.prog u = .ok (.int .u8 b.toNat) u := fun _ => by kernel_rfl
  have q1 : IntKind.u16.wrap (a.toNat : Int) = (a.toNat : Int) := by rw [IntKind.wrap_u16]; omega
  have q2 : IntKind.u16.wrap ((a.toNat : Int) * 256) = (a.toNat : Int) * 256 := by rw [IntKind.wrap_u16]; omega
  have q3 : IntKind.u16.wrap (b.toNat : Int) = (b.toNat : Int) := by rw [IntKind.wrap_u16]; omega
  go_wp2
  go_quiet (fail)
  go_wp2
  go_ret
  exact ⟨ret_int (u16_word _ _ ha hb), unhide HR, grown_drewN (grown_set _) nq⟩

set_option maxHeartbeats 400000 in
theorem long_ok (B : Nat) (a b c d : UInt8) (l : List UInt8) (w : World) (h : Rdr w B (a :: b :: c :: d :: l)) (hs : (a :: b :: c :: d :: l).length ≤ maxLen) :
    Calls Tryz.prog 81 #[.pointer (some ⟨B, 0, none⟩)] w fun e w' => e = .returned (.int .u32 (16777216 * (a.toNat : Int) + 65536 * (b.toNat : Int) + 256 * (c.toNat : Int) + (d.toNat : Int))) ∧ Rdr w' B l ∧ w.grownBy w' (some B) := by
  have HN := hide (word_ok B a b (c :: d :: l) w h hs)
  have HM := hide (fun u hu => word_ok B c d l u hu (by simp only [List.length_cons] at hs ⊢; omega))
  have ha : a.toNat < 256 := a.toNat_lt
  have hb : b.toNat < 256 := b.toNat_lt
  have hc : c.toNat < 256 := c.toNat_lt
  have hd : d.toNat < 256 := d.toNat_lt
  obtain ⟨x, hx⟩ : ∃ x, x = 256 * (a.toNat : Int) + (b.toNat : Int) := ⟨_, rfl⟩
  obtain ⟨y, hy⟩ : ∃ y, y = 256 * (c.toNat : Int) + (d.toNat : Int) := ⟨_, rfl⟩
  have hx0 : 0 ≤ x := by omega
  have hx1 : x ≤ 65535 := by omega
  have hy0 : 0 ≤ y := by omega
  have hy1 : y ≤ 65535 := by omega
  have e : 16777216 * (a.toNat : Int) + 65536 * (b.toNat : Int) + 256 * (c.toNat : Int) + (d.toNat : Int) = x * 65536 + y := by omega
  rw [e]
  rw [← hx] at HN
  rw [← hy] at HM
  clear h hs hx hy e ha hb hc hd
  go_enter Tryz.func81, Tryz.ntmps81
  go_wp2_with fail
  refine (unhide HN).mono ?_
  rintro e w1 ⟨rfl, h1, g1⟩
  have H1 := hide h1
  have G1 := hide g1
  clear h1 g1
  go_wp2_with fail
  refine (unhide HM _ (unhide H1)).mono ?_
  rintro e w2 ⟨rfl, h2, g2⟩
  have H2 := hide h2
  have G2 := hide g2
  clear h2 g2
  go_wp2
  go_ret
  refine ⟨ret_int ?_, unhide H2, grown_trans (unhide G1) (unhide G2)⟩
  exact u32_words x y hx0 hx1 hy0 hy1

set_option maxHeartbeats 400000 in
theorem address_ok (B : Nat) (a b c d : UInt8) (l : List UInt8) (w : World) (h : Rdr w B (a :: b :: c :: d :: l)) (hs : (a :: b :: c :: d :: l).length ≤ maxLen) :
    Calls Tryz.prog 64 #[.pointer (some ⟨B, 0, none⟩)] w fun e w' => e = .returned (.int .u32 (16777216 * (a.toNat : Int) + 65536 * (b.toNat : Int) + 256 * (c.toNat : Int) + (d.toNat : Int))) ∧ Rdr w' B l ∧ w.grownBy w' (some B) := by
  have HN := hide (long_ok B a b c d l w h hs)
  have ha : a.toNat < 256 := a.toNat_lt
  have hb : b.toNat < 256 := b.toNat_lt
  have hc : c.toNat < 256 := c.toNat_lt
  have hd : d.toNat < 256 := d.toNat_lt
  obtain ⟨x, hx⟩ : ∃ x, x = 16777216 * (a.toNat : Int) + 65536 * (b.toNat : Int) + 256 * (c.toNat : Int) + (d.toNat : Int) := ⟨_, rfl⟩
  have hx0 : 0 ≤ x := by omega
  have hx1 : x ≤ 4294967295 := by omega
  rw [← hx] at HN ⊢
  clear h hs hx ha hb hc hd
  go_enter Tryz.func64, Tryz.ntmps64
  go_wp2_with fail
  refine (unhide HN).mono ?_
  rintro e w1 ⟨rfl, h1, g1⟩
  have H1 := hide h1
  have G1 := hide g1
  clear h1 g1
  go_wp2
  go_ret
  exact ⟨rfl, unhide H1, unhide G1⟩
end Go.Proofs.YtoifihhmneldeaaGreatDoor.Rd
