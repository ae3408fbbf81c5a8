import Derived.Test.YtbhbbeebncmaiaaGreatDoorRows
import Derived.WalkKit
import Derived.ProofKit
import Derived.WalkSpells
import Derived.WalkLawsBesides
import Derived.Outline
import Derived.OneCell
import Derived.Lib.AppendStr
import Derived.Laws.BytesString
import Derived.Laws.BytesArg
import Derived.Laws.IdiomStrings
import Derived.Laws.BitsAllLaws
import Derived.Deep.QuietTactic
import Derived.BigQuiet
import Derived.Deep.LoopGhost
import Derived.Deep.RegionLaw
namespace Go.Proofs.YtbhbbeebncmaiaaGreatDoor.Bs
open Go.ChangeShapes Go.WideShapes Go.ChangeAt Go.RowKit
set_option linter.unusedVariables false
theorem hide {p : Prop} (h : p) : Hid p := h
theorem unhide {p : Prop} (h : Hid p) : p := h
theorem ret_int {k : IntKind} {a b : Int} (h : a = b) : Ending.returned (.int k a) = .returned (.int k b) := by rw [h]
theorem ret_str {a b : ByteArray} (h : a = b) : Ending.returned (.string a) = .returned (.string b) := by rw [h]
theorem wrap_i64 (n : Int) (h0 : 0 ≤ n) (h1 : n ≤ 9223372036854775807) : IntKind.i64.wrap n = n := by
  simp [IntKind.wrap, IntKind.bits, IntKind.signed]; omega
theorem info8 : (Tryz.prog.info? 5).map (fun i => (i.zero, i.size, i.bytes)) = some (some (.int .u8 0), 1, 1) := by kernel_rfl

def cells8 (L : List UInt8) : List Value := L.map fun b => Value.int .u8 b.toNat
theorem cells8_length (L : List UInt8) : (cells8 L).length = L.length := by simp [cells8]
theorem cells8_append (L M : List UInt8) : cells8 (L ++ M) = cells8 L ++ cells8 M := by simp [cells8]
theorem cells8_one (L : List UInt8) : ∀ u ∈ cells8 L, u.oneCell' = true := by
  intro u hu
  simp only [cells8, List.mem_map] at hu
  obtain ⟨b, _, rfl⟩ := hu
  rfl
theorem cells8_get (L : List UInt8) (j : Nat) (h : j < L.length) : (cells8 L)[j]? = some (.int .u8 L[j].toNat) := by simp [cells8, h]
theorem len_str (s : ByteArray) : s.data.toList.length = s.size := by rw [Array.length_toList]; rfl
theorem add_lit' (g j : Nat) : (⟨g, 0, none⟩ : Addr).add j = ⟨g, j, none⟩ := by unfold Addr.add; split <;> simp_all
theorem cell_new (w : World) (xs : List Value) (t : TypeId) : ∀ j u, xs[j]? = some u → (w.alloc (.cells xs.toArray t)).cell? ((⟨w.heap.size, 0, none⟩ : Addr).add j) = some u := by
  intro j u h
  rw [add_lit', cell_of_row _ w.heap.size j xs.toArray t (0, 0) (heap_alloc_new w _)]
  simpa using h

def by8 (x : Int) : UInt8 := UInt8.ofNat (x % 256).toNat
theorem by8_toNat (x : Int) : ((by8 x).toNat : Int) = x % 256 := by
  simp only [by8, UInt8.toNat_ofNat']; omega
def word8 (n : Int) : List UInt8 := [by8 (n / 256), by8 n]
def words8 (ns : List Int) : List UInt8 := ns.flatMap word8
theorem cells_word8 (n : Int) : cells8 (word8 n) = [.int .u8 (n / 256 % 256), .int .u8 (n % 256)] := by
  simp [cells8, word8, by8_toNat]
theorem words8_length (ns : List Int) : (words8 ns).length = 2 * ns.length := by
  induction ns with
  | nil => rfl
  | cons a r ih => simp only [words8, List.flatMap_cons, List.length_append] at ih ⊢; rw [ih]; simp [word8]; omega
theorem words8_take (ns : List Int) (k : Nat) (h : k < ns.length) : words8 (ns.take (k + 1)) = words8 (ns.take k) ++ word8 ns[k] := by
  rw [words8, List.take_succ_eq_append_getElem h, List.flatMap_append]
  simp [words8]
def dword8 (a : Int) : List UInt8 := words8 [a / 65536, a % 65536]
def dwords8 (ns : List Int) : List UInt8 := ns.flatMap dword8
theorem dwords8_length (ns : List Int) : (dwords8 ns).length = 4 * ns.length := by
  induction ns with
  | nil => rfl
  | cons a r ih => simp only [dwords8, List.flatMap_cons, List.length_append] at ih ⊢; rw [ih]; simp [dword8, words8, word8]; omega
theorem dwords8_take (ns : List Int) (k : Nat) (h : k < ns.length) : dwords8 (ns.take (k + 1)) = dwords8 (ns.take k) ++ dword8 ns[k] := by
  rw [dwords8, List.take_succ_eq_append_getElem h, List.flatMap_append]
  simp [dwords8]
theorem step_append_own {P : Program} {ops : Array Oper} {o : Oper} {a : Act} {w : World} {K : Act → World → Prop} {Q : Exit → Act → World → Prop} {E : Prop}
    (hg : o.guard = none) (s x : Operand) (t : TypeId) (hop : o.op = Op.call { callee := Callee.builtin Builtin.append, args := #[s, x], argTypes := #[t, t] })
    (base : Nat) (e : TypeId) (i : TypeInfo) (z : Value) (size bytes : Nat) (h1 : P.underlying t = some (.slice e)) (h2 : P.info? e = some i) (h3 : i.zero = some z) (h4 : i.size = size) (h5 : i.bytes = bytes) (h6 : z.cells.size = size) (h7 : 0 < size)
    (v : Value) (n : Nat) (xs : List Value) (hs : a.eval s = v) (hown : w.ownsRow base e size v n xs)
    (ad : Addr) (m c : Nat) (news : List Value) (hx : a.eval x = .slice (some ad) m c) (hn : news.length = m * size) (hc : ∀ j u, news[j]? = some u → w.cell? (ad.add j) = some u) (h1c : ∀ u ∈ news, u.oneCell' = true)
    (b1 : n + m ≤ maxLen) (b2 : (n + m) * bytes ≤ 140737488355328) (b3 : base ≤ w.heap.size)
    (hK : ∀ v' w', w'.ownsRow base e size v' (n + m) (xs ++ news) → w.grownBy w' v.ownBlock → K (a.put o.dst v') w') :
    if Region.wanted o (yielded ops a.tmps) = true then Oper.wp P o a w K Q else E := by
  have hw : Region.wanted o (yielded ops a.tmps) = true := by simp [Region.wanted, hg]
  rw [if_pos hw]
  exact wp_append_own w s x t hop base e i z size bytes h1 h2 h3 h4 h5 h6 h7 v n xs hs hown ad m c news hx hn hc h1c b1 b2 b3 (fun v' w' r1 r2 _ => hK v' w' r1 r2)
theorem run_own_string (w : World) (b : Nat) (v : Value) (L : List UInt8) (h : w.ownsRow b 5 1 v L.length (cells8 L)) :
    (convert 55 9 v).run Tryz.prog w = .ok (.string ⟨L.toArray⟩) w := by
  have hc := fun g hg => h.cells (g := g) hg
  rcases h.2 with ⟨rfl, hn⟩ | ⟨g, cap, cur, rfl, _⟩
  · have e := List.eq_nil_of_length_eq_zero hn
    subst e
    exact run_convert_bytes_nil w 55 5 Tryz.underlying55 Tryz.underlying5 0 0 _ Tryz.underlying9
  · exact run_convert_bytes_back w _ _ 5 ⟨g, 0, none⟩ cap L Tryz.underlying55 Tryz.underlying5 Tryz.underlying9 (fun j hj => hc g rfl j _ (by simp [cells8, hj]))
end Go.Proofs.YtbhbbeebncmaiaaGreatDoor.Bs
namespace Go.Proofs.YtbhbbeebncmaiaaGreatDoor.Wt
open Go.ChangeShapes Go.WideShapes Go.ChangeAt Go.RowKit Bs
set_option linter.unusedVariables false
def Wr (w : World) (B : Nat) (L : List UInt8) : Prop :=
  ∃ v, w.heap[B]? = some (.cells #[v] 240 (0, 0)) ∧ w.ownsRow (B + 1) 5 1 v L.length (cells8 L)

structure Kept (B : Nat) (w w' : World) : Prop where
  below : Below B w w'
  others : ∀ k cs t z, B < k → w.heap[k]? = some (.cells cs t z) → t ≠ 5 → w'.heap[k]? = some (.cells cs t z)

theorem Kept.refl (B : Nat) (w : World) : Kept B w w := ⟨Below.refl _ _, fun _ _ _ _ _ h _ => h⟩
theorem Kept.trans {B : Nat} {a b c : World} (h : Kept B a b) (k : Kept B b c) : Kept B a c :=
  ⟨h.below.trans k.below, fun i cs t z hi h0 ht => k.others i cs t z hi (h.others i cs t z hi h0 ht) ht⟩
theorem Kept.alloc {B : Nat} {a w : World} (h : Kept B a w) (hB : B ≤ w.heap.size) (o : Obj) : Kept B a (w.alloc o) :=
  ⟨h.below.alloc hB o, fun i cs t z hi h0 ht => by
    have h1 := h.others i cs t z hi h0 ht
    rw [Below.heap_alloc _ _ _ (lt_of_block h1)]; exact h1⟩
theorem Kept.drew {B : Nat} {a w : World} (h : Kept B a w) : Kept B a w.drew := ⟨h.below.drew, h.others⟩
theorem Wr.alloc {w : World} {B : Nat} {L : List UInt8} (h : Wr w B L) (o : Obj) : Wr (w.alloc o) B L := by
  obtain ⟨v, hv, hown⟩ := h
  exact ⟨v, by rw [Below.heap_alloc _ _ _ (lt_of_block hv)]; exact hv, hown.alloc o⟩
theorem Wr.lt {w : World} {B : Nat} {L : List UInt8} (h : Wr w B L) : B < w.heap.size := by
  obtain ⟨v, hv, _⟩ := h
  exact lt_of_block hv

theorem step {w w1 : World} {B : Nat} {v v' : Value} {L N : List UInt8} (hv : w.heap[B]? = some (.cells #[v] 240 (0, 0)))
    (hown : w.ownsRow (B + 1) 5 1 v L.length (cells8 L)) (hown' : w1.ownsRow (B + 1) 5 1 v' (L.length + N.length) (cells8 L ++ cells8 N)) (hg : w.grownBy w1 v.ownBlock) :
    Wr (w1.setCell ⟨B, 0, none⟩ v') B (L ++ N) ∧ Kept B w (w1.setCell ⟨B, 0, none⟩ v') := by
  have hlt := lt_of_block hv
  have hne : some B ≠ v.ownBlock := fun e => by have := hown.lt B e.symm; omega
  have hB1 : w1.heap[B]? = some (.cells #[v] 240 (0, 0)) := (hg.block B hlt hne).trans hv
  refine ⟨⟨v', one_setCell hB1, ?_⟩, ?_, ?_⟩
  · have h := ownsRow_setCell_below (a := ⟨B, 0, none⟩) hown' (by simp) v'
    rw [List.length_append, cells8_append]
    exact h
  · exact ((Below.refl B w).grown hg (by omega) (fun k hk => by have := hown.lt k hk; omega)).setCell (Nat.le_refl _) _
  · intro k cs t z hk h0 ht
    have hkl := lt_of_block h0
    rw [Below.heap_setCell _ _ _ _ (by simp; omega), hg.block k hkl ?_]
    · exact h0
    · intro e
      rcases hown.2 with ⟨rfl, _⟩ | ⟨g, cap, cur, rfl, _, hgg, _⟩
      · simp [Value.ownBlock] at e
      · simp [Value.ownBlock] at e
        subst e
        rw [h0] at hgg
        simp at hgg
        exact ht hgg.2.1
theorem mid {w w1 : World} {B : Nat} {v : Value} {L : List UInt8} (hv : w.heap[B]? = some (.cells #[v] 240 (0, 0)))
    (hown : w.ownsRow (B + 1) 5 1 v L.length (cells8 L)) (hg : w.grownBy w1 v.ownBlock) : w1.heap[B]? = some (.cells #[v] 240 (0, 0)) :=
  (hg.block B (lt_of_block hv) (fun e => by have := hown.lt B e.symm; omega)).trans hv

theorem own_shape {w : World} {b e z : Nat} {v : Value} {n : Nat} {xs : List Value} (h : w.ownsRow b e z v n xs) : ∃ ao m cp, v = .slice ao m cp := by
  rcases h.2 with ⟨rfl, _⟩ | ⟨g, cap, cur, rfl, _⟩
  · exact ⟨_, _, _, rfl⟩
  · exact ⟨_, _, _, rfl⟩

theorem own_len {w : World} {b e z : Nat} {v : Value} {n : Nat} {xs : List Value} (h : w.ownsRow b e z v n xs) : ∃ ao cp, v = .slice ao n cp := by
  rcases h.2 with ⟨rfl, rfl⟩ | ⟨g, cap, cur, rfl, _⟩
  · exact ⟨_, _, rfl⟩
  · exact ⟨_, _, rfl⟩

theorem step_all {w w1 : World} {B : Nat} {v v' : Value} {L N : List UInt8} {M : Nat} (hv : w.heap[B]? = some (.cells #[v] 240 (0, 0)))
    (hown : w.ownsRow (B + 1) 5 1 v L.length (cells8 L)) (hown' : w1.ownsRow (B + 1) 5 1 v' M (cells8 L ++ cells8 N)) (hM : M = L.length + N.length) (hg : w.grownBy w1 v.ownBlock) :
    (∃ ao m cp, v' = .slice ao m cp) ∧ w1.cell? ⟨B, 0, none⟩ = some v ∧ w1.frozen? ⟨B, 0, none⟩ = false ∧ Hid (Wr (w1.setCell ⟨B, 0, none⟩ v') B (L ++ N)) ∧ Hid (Kept B w (w1.setCell ⟨B, 0, none⟩ v')) := by
  subst hM
  have hm := mid hv hown hg
  obtain ⟨s1, s2⟩ := step hv hown hown' hg
  exact ⟨own_shape hown', cell_of_one hm, free_of_one hm, s1, s2⟩

def flat (ss : List ByteArray) : List UInt8 := ss.flatMap fun s => s.data.toList
theorem flat_take (ss : List ByteArray) (k : Nat) (h : k < ss.length) : flat (ss.take (k + 1)) = flat (ss.take k) ++ ss[k].data.toList := by
  rw [flat, List.take_succ_eq_append_getElem h, List.flatMap_append]
  simp [flat]
theorem flat_take_le (ss : List ByteArray) (k : Nat) : (flat (ss.take k)).length ≤ (flat ss).length := by
  have e : flat ss = flat (ss.take k) ++ flat (ss.drop k) := by
    rw [flat, flat, flat, ← List.flatMap_append, List.take_append_drop]
  rw [e, List.length_append]; omega

set_option maxHeartbeats 1000000 in
theorem texts_any (B bs cap : Nat) (ss : List ByteArray) (L : List UInt8) (w : World) (hW : Wr w B L) (hb : B < bs)
    (hsrc : w.heap[bs]? = some (.cells (ss.map Value.string).toArray 9 (0, 0))) (hsz : L.length + (flat ss).length ≤ 1099511627776) (hn : ss.length ≤ 1099511627776) :
    Calls Tryz.prog 191 #[.pointer (some ⟨B, 0, none⟩), .slice (some ⟨bs, 0, none⟩) ss.length cap] w fun e w' =>
      e = .returned (.tuple #[]) ∧ Wr w' B (L ++ flat ss) ∧ Kept B w w' := by
  obtain ⟨i0, hi, hz0, hz1, hz2⟩ := info_parts info8
  have HS := hide hsrc
  clear hsrc
  go_enter Tryz.func191, Tryz.ntmps191
  go_wp2
  go_loopw [8] (fun i wr => ∃ k : Nat, k ≤ ss.length ∧ i = .int .i64 k ∧ Wr wr B (L ++ flat (ss.take k)) ∧ Kept B w wr) (fun i _ => ss.length - (intOf i).toNat)
  case atStart => exact ⟨0, Nat.zero_le _, rfl, by simpa [flat] using hW, Kept.refl _ _⟩
  case round =>
    obtain ⟨k, hk, rfl, hWr, hK⟩ := hrel
    rename World => wr
    by_cases hlt : k < ss.length
    · obtain ⟨v, hv, hown⟩ := hWr
      have hsr := hK.others _ _ _ _ hb (unhide HS) (by decide)
      have hcs : wr.cell? ⟨bs, k, none⟩ = some (.string ss[k]) := by
        rw [cell_of_row wr bs k _ _ _ hsr]; simp [hlt]
      have hc := cell_of_one hv
      have hf := free_of_one hv
      have HV := hide hv
      have HO := hide hown
      clear hv hown hsr
      have hlen := flat_take_le ss (k + 1)
      have HT := hide (flat_take ss k hlt)
      have hle : (flat (ss.take k)).length + ss[k].size ≤ (flat ss).length := by
        rw [unhide HT, List.length_append, len_str] at hlen; exact hlen
      clear hlen
      have hB := lt_of_block (unhide HV)
      go_wp2_with (at_builtin; refine Lib.wpList_append_own_string _ rfl (.tmp 16) (.tmp 17) 55 9 rfl (B + 1) 5 i0 Tryz.underlying55 Tryz.underlying9 hi hz0 hz1 hz2 v _ _ rfl (unhide HO) ss[k] rfl ?h63 ?hby ?hba ?_)
      case h63 => simp only [List.length_append, maxLen]; omega
      case hby => simp only [List.length_append]; omega
      case hba => omega
      · intro v' w1 hown' hg _
        have hm := mid (unhide HV) (unhide HO) hg
        have hc1 := cell_of_one hm
        have hf1 := free_of_one hm
        obtain ⟨s1, s2⟩ := step (N := ss[k].data.toList) (unhide HV) (unhide HO) (by rw [len_str, List.length_append]; exact hown') hg
        obtain ⟨ao, nn, cp, hv'⟩ := own_shape hown'
        have S1 := hide s1
        have S2 := hide s2
        clear hown' hg hm s1 s2 hc hf hcs
        subst hv'
        go_wp2
        go_roundw
        case rel => exact ⟨k + 1, by omega, by go_num, by rw [unhide HT, ← List.append_assoc]; exact unhide S1, hK.trans (unhide S2)⟩
        case measure => simp [intOf]; omega
    · have e : k = ss.length := by omega
      subst e
      rw [List.take_length] at hWr
      go_wp2
      go_end0
      exact ⟨rfl, hWr, hK⟩
end Go.Proofs.YtbhbbeebncmaiaaGreatDoor.Wt
namespace Go.Proofs.YtbhbbeebncmaiaaGreatDoor.Wt
open Go.ChangeShapes Go.WideShapes Go.ChangeAt Go.RowKit Bs
set_option linter.unusedVariables false
set_option maxHeartbeats 1000000 in
theorem words_any (B bs cap : Nat) (ns : List Int) (L : List UInt8) (w : World) (hW : Wr w B L) (hb : B < bs)
    (hsrc : w.heap[bs]? = some (.cells (ns.map (Value.int .u16)).toArray 90 (0, 0))) (hnr : ∀ n ∈ ns, 0 ≤ n ∧ n ≤ 65535) (hsz : L.length + 2 * ns.length ≤ 1099511627776) :
    Calls Tryz.prog 192 #[.pointer (some ⟨B, 0, none⟩), .slice (some ⟨bs, 0, none⟩) ns.length cap] w fun e w' =>
      e = .returned (.tuple #[]) ∧ Wr w' B (L ++ words8 ns) ∧ Kept B w w' := by
  obtain ⟨i0, hi, hz0, hz1, hz2⟩ := info_parts info8
  have HS := hide hsrc
  have HN := hide hnr
  clear hsrc hnr
  go_enter Tryz.func192, Tryz.ntmps192
  go_wp2
  go_loopw [8] (fun i wr => ∃ k : Nat, k ≤ ns.length ∧ i = .int .i64 k ∧ Wr wr B (L ++ words8 (ns.take k)) ∧ Kept B w wr) (fun i _ => ns.length - (intOf i).toNat)
  case atStart => exact ⟨0, Nat.zero_le _, rfl, by simpa [words8] using hW, Kept.refl _ _⟩
  case round =>
    obtain ⟨k, hk, rfl, hWr, hK⟩ := hrel
    rename World => wr
    by_cases hlt : k < ns.length
    · obtain ⟨v, hv, hown⟩ := hWr
      have hsr := hK.others _ _ _ _ hb (unhide HS) (by decide)
      obtain ⟨n, hn⟩ : ∃ n, ns[k] = n := ⟨_, rfl⟩
      obtain ⟨hn0, hn1⟩ := unhide HN ns[k] (List.getElem_mem hlt)
      rw [hn] at hn0 hn1
      have hcs : wr.cell? ⟨bs, k, none⟩ = some (.int .u16 n) := by
        rw [cell_of_row wr bs k _ _ _ hsr]; simp [hlt, hn]
      have hc := cell_of_one hv
      have hf := free_of_one hv
      have HV := hide hv
      have HO := hide hown
      have HT := hide (words8_take ns k hlt)
      rw [hn] at HT
      have hlw : (words8 (ns.take k)).length ≤ 2 * k := by rw [words8_length, List.length_take]; omega
      have hB := lt_of_block (unhide HV)
      have HC := hide (cells_word8 n)
      clear hv hown hsr hn
      go_wp2_with (at_builtin; refine wpList_append_own _ rfl (.tmp 16) (.tmp 22) 55 rfl (B + 1) 5 i0 (.int .u8 0) 1 1 Tryz.underlying55 hi hz0 hz1 hz2 rfl (by decide) v _ _ rfl ((unhide HO).alloc _) ⟨wr.heap.size, 0, none⟩ 2 2 (cells8 (word8 n)) rfl rfl ?c1 (cells8_one _) ?h63 ?hby ?hba ?_)
      case c1 =>
        rw [unhide HC]
        have e : n / 256 % 256 = n / 256 := by omega
        rw [e]
        exact cell_new wr [.int .u8 (n / 256), .int .u8 (n % 256)] 5
      case h63 => simp only [List.length_append, maxLen]; omega
      case hby => simp only [List.length_append]; omega
      case hba => simp; omega
      · intro v' w1 hown' hg _
        have hv1 : (wr.alloc (.cells #[.int .u8 (n / 256), .int .u8 (n % 256)] 5)).heap[B]? = some (.cells #[v] 240 (0, 0)) := by rw [Below.heap_alloc _ _ _ hB]; exact unhide HV
        have hm := mid hv1 ((unhide HO).alloc _) hg
        have hc1 := cell_of_one hm
        have hf1 := free_of_one hm
        obtain ⟨s1, s2⟩ := step (N := word8 n) hv1 ((unhide HO).alloc _) (by rw [List.length_append]; exact hown') hg
        obtain ⟨ao, nn, cp, hv'⟩ := own_shape hown'
        have S1 := hide s1
        have S2 := hide (((Kept.refl B wr).alloc (by omega) _).trans s2)
        clear hown' hg hm s1 s2 hc hf hcs hv1
        subst hv'
        go_wp2
        go_roundw
        case rel => exact ⟨k + 1, by omega, by go_num, by rw [unhide HT, ← List.append_assoc]; exact unhide S1, hK.trans (unhide S2)⟩
        case measure => simp [intOf]; omega
    · have e : k = ns.length := by omega
      subst e
      rw [List.take_length] at hWr
      go_wp2
      go_end0
      exact ⟨rfl, hWr, hK⟩
end Go.Proofs.YtbhbbeebncmaiaaGreatDoor.Wt
