
import Derived.Test.YtoifihhmneldeaaDoorOwnM
namespace Go.Proofs.YtoifihhmneldeaaDoor.Hs
open Go.ChangeShapes Go.WideShapes Go.ChangeAt Go.RowKit Bs
set_option linter.unusedVariables false
set_option linter.unusedSimpArgs false

/-- how many bytes 0 fill a text up to 56 modulo 64 behind its mark -/
def fillN (n : Nat) : Nat := (119 - n % 64) % 64
/-- the first q of the eight bytes of a length in bits -/
def lenB (n q : Nat) : List UInt8 := (List.range q).map fun i => UInt8.ofNat (n * 8 / 2 ^ (56 - 8 * i) % 256)
theorem lenB_length (n q : Nat) : (lenB n q).length = q := by simp [lenB]
theorem lenB_next (n q : Nat) : lenB n (q + 1) = lenB n q ++ [UInt8.ofNat (n * 8 / 2 ^ (56 - 8 * q) % 256)] := by simp [lenB, List.range_succ]
/-- a text with its mark and so many bytes 0 -/
def padJ (l : List UInt8) (j : Nat) : List UInt8 := l ++ 128 :: List.replicate j 0
theorem padJ_length (l : List UInt8) (j : Nat) : (padJ l j).length = l.length + 1 + j := by simp [padJ]; omega
theorem padJ_next (l : List UInt8) (j : Nat) : padJ l (j + 1) = padJ l j ++ [0] := by simp [padJ, List.replicate_succ']
def endL (l : List UInt8) (n : Nat) : List UInt8 := padJ l (fillN l.length) ++ lenB n 8
theorem endL_length (l : List UInt8) (n : Nat) : ∃ m, (endL l n).length = 64 * m := by
  refine ⟨(l.length + 9 + fillN l.length) / 64, ?_⟩
  unfold endL
  rw [List.length_append, padJ_length, lenB_length]
  unfold fillN; omega
theorem info8' : (Tryd.prog.info? 5).map (fun i => (i.zero, i.size, i.bytes)) = some (some (.int .u8 0), 1, 1) := by kernel_rfl
theorem cells8_lit (x : UInt8) : cells8 [x] = [.int .u8 x.toNat] := rfl
theorem one_cell (w : World) (x : UInt8) (v : Value) (t : TypeId) (hv : v = .int .u8 x.toNat) : ∀ j u, (cells8 [x])[j]? = some u → (w.alloc (.cells #[v] t)).cell? ((⟨w.heap.size, 0, none⟩ : Addr).add j) = some u := by
  subst hv
  exact cell_new w [.int .u8 x.toNat] t

def slen : Value → Nat
  | .slice _ n _ => n
  | _ => 0
theorem has_slice {w : World} {base : Nat} {e : TypeId} {v : Value} {L : List UInt8} {n : Nat} (h : Om.Has w base e v L) (hn : L.length = n) : ∃ g cap, v = .slice (some ⟨g, 0, none⟩) n cap := by
  obtain ⟨g, cap, hv, _⟩ := h.cells
  exact ⟨g, cap, by rw [hv, hn]⟩
theorem fill_end (n j : Nat) (hj : j ≤ fillN n) : (n + 1 + j) % 64 = 56 ↔ j = fillN n := by unfold fillN at *; omega
theorem by_shift (n e : Nat) : ((UInt8.ofNat (n * 8 / 2 ^ e % 256)).toNat : Int) = (n : Int) * 8 / 2 ^ e % 256 := by
  generalize hp : 2 ^ e = p
  have hm : n * 8 / p % 256 < 256 := Nat.mod_lt _ (by decide)
  rw [UInt8.toNat_ofNat_of_lt' (by show _ < 256; exact hm)]
  have hp2 : (2 : Int) ^ e = (p : Int) := by rw [← hp]; push_cast; rfl
  rw [hp2, show (n : Int) * 8 = ((n * 8 : Nat) : Int) by omega]
  generalize n * 8 = m
  rw [← Int.natCast_ediv]
  omega

set_option maxHeartbeats 1000000 in
set_option maxRecDepth 10000 in
theorem ending_any (s : ByteArray) (l : List UInt8) (n : Nat) (w : World) (hsl : s.data.toList = l) (hl : l.length ≤ 1048576) (hn : n ≤ 1048576) :
    Calls Tryd.prog 25 #[.string s, .int .i64 n] w fun e w' => e = .returned (.string ⟨(endL l n).toArray⟩) ∧ Below w.heap.size w w' := by
  obtain ⟨i0, hi, hz0, hz1, hz2⟩ := info_parts info8'
  have hz : s.size = l.length := by rw [← hsl, Array.length_toList]; rfl
  have hcv := fun (w : World) => run_bytes_of_string (P := Tryd.prog) w 9 46 5 s Tryd.underlying9 Tryd.underlying46 Tryd.underlying5
  have HB0 := hide (fun (w : World) => Om.Has.bytes w 5 s (by simp only [maxLen]; omega))
  rw [hsl] at HB0
  have HSL := hide hsl
  have HZ := hide hz
  clear hsl hz
  obtain ⟨z, hzz⟩ : ∃ z, z = fillN l.length := ⟨_, rfl⟩
  have hz64 : z < 64 := by rw [hzz]; unfold fillN; omega
  have HFE : Hid (∀ j, j ≤ z → ((l.length + 1 + j) % 64 = 56 ↔ j = z)) := hide (fun j hj => by rw [hzz] at hj ⊢; exact fill_end _ _ hj)
  have HZZ := hide hzz
  clear hzz
  go_enter Tryd.func25, Tryd.ntmps25
  go_wp2_with (at_builtin; refine Om.wpList_append _ rfl (.tmp 9) (.tmp 10) 46 rfl w.heap.size 5 i0 Tryd.underlying46 hi hz0 hz1 hz2 _ l [128] rfl ((unhide HB0 w).alloc _) ⟨w.heap.size + 1, 0, none⟩ 1 1 rfl rfl ?c1 ?hb ?hba ?_)
  case c1 =>
    intro j u h
    have q := fun o => one_cell (w.alloc o) 128 (.int .u8 128) 5 rfl j u h
    simpa using q _
  case hb => simp; omega
  case hba => simp; omega
  intro v1 w1 hown hg
  have hB1 : Below w.heap.size w w1 := (((Below.refl _ w).alloc (Nat.le_refl _) _).alloc (by simp) _).drew.grown hg (by simp; omega) (fun x hx => by have := (unhide HB0 w).lt x hx; omega)
  have HV1 : Hid (Om.Has w1 w.heap.size 5 v1 (padJ l 0)) := hide hown
  have HB1 := hide hB1
  clear hown hg hB1 hcv HB0
  obtain ⟨g1, c1, rfl⟩ := has_slice (n := l.length + 1) (unhide HV1) (padJ_length l 0)
  go_wp2
  go_loopw [5] (fun v5 wr => ∃ j, j ≤ z ∧ Hid (Om.Has wr w.heap.size 5 v5 (padJ l j)) ∧ Hid (Below w.heap.size w wr)) (fun v5 _ => l.length + 100 - slen v5)
  case atStart => exact ⟨0, Nat.zero_le _, HV1, HB1⟩
  case round =>
    obtain ⟨j, hj, HO, HW⟩ := hrel
    rename World => wr
    have hwz := (unhide HW).size
    obtain ⟨g, cp, rfl⟩ := has_slice (unhide HO) (padJ_length l j)
    have hfe := unhide HFE j hj
    by_cases e : j = z
    · have q1 : (((l.length : Int) + 1 + (j : Int)) % 64 != 56) = false := by have := hfe.2 e; simp; omega
      have w1 : IntKind.u64.wrap (n : Int) = (n : Int) := by rw [IntKind.wrap_u64]; omega
      have w2 : IntKind.u64.wrap ((n : Int) * 8) = (n : Int) * 8 := by rw [IntKind.wrap_u64]; omega
      have HO8 : Hid (Om.Has wr w.heap.size 5 (.slice (some ⟨g, 0, none⟩) (l.length + 1 + j) cp) (padJ l z ++ lenB n 0)) := hide (by rw [← e]; simpa [lenB] using unhide HO)
      clear e hfe
      go_wp2
      go_loopw [5, 22] (fun v5 i wq => ∃ k : Nat, k ≤ 8 ∧ i = .int .i64 k ∧ Hid (Om.Has wq w.heap.size 5 v5 (padJ l z ++ lenB n k)) ∧ Hid (Below w.heap.size w wq)) (fun _ i _ => 8 - (intOf i).toNat)
      case atStart => exact ⟨0, by omega, rfl, HO8, HW⟩
      case round =>
        obtain ⟨k, hk, rfl, HQ, HV⟩ := hrel
        rename World => wq
        have hvz := (unhide HV).size
        have hlen : (padJ l z ++ lenB n k).length = l.length + 1 + z + k := by rw [List.length_append, padJ_length, lenB_length]
        obtain ⟨g5, c5, rfl⟩ := has_slice (unhide HQ) hlen
        by_cases hlt : k < 8
        · have h8 : (k : Int) < 8 := by omega
          obtain ⟨x, hx⟩ : ∃ x : UInt8, x = UInt8.ofNat (n * 8 / 2 ^ (56 - 8 * k) % 256) := ⟨_, rfl⟩
          have hxv : ((x.toNat : Nat) : Int) = (n : Int) * 8 / 2 ^ (56 - 8 * k) % 256 := by rw [hx]; exact by_shift n _
          have HX := hide hx
          have HXV := hide hxv
          clear hx hxv
          go_wp2_with (at_builtin; refine Om.wpList_append _ rfl (.tmp 25) (.tmp 32) 46 rfl w.heap.size 5 i0 Tryd.underlying46 hi hz0 hz1 hz2 _ (padJ l z ++ lenB n k) [x] rfl ((unhide HQ).alloc _) ⟨wq.heap.size, 0, none⟩ 1 1 rfl rfl (one_cell _ x _ _ (by rw [unhide HXV])) ?hb3 ?hba3 ?_)
          case hb3 => rw [hlen]; simp; omega
          case hba3 => simp; omega
          intro v2 w2 hown hg
          have hB2 : Below w.heap.size w w2 := ((unhide HV).alloc hvz _).grown hg (by simp; omega) (fun x hx => ((unhide HQ).lt x hx).1)
          have hO2 : Om.Has w2 w.heap.size 5 v2 (padJ l z ++ lenB n (k + 1)) := by rw [lenB_next, ← unhide HX]; exact hown
          have O2 := hide hO2
          have B2 := hide hB2
          clear hown hg hB2 hO2
          go_wp2
          go_roundw
          case rel => exact ⟨k + 1, by omega, by go_num, O2, B2⟩
          case measure => simp [intOf]; omega
        · have e8 : k = 8 := by omega
          have h8 : ¬ (k : Int) < 8 := by omega
          have hst := (unhide HQ).string (P := Tryd.prog) 46 9 Tryd.underlying46 Tryd.underlying5 Tryd.underlying9
          obtain ⟨so, hso⟩ : ∃ so : ByteArray, so = ⟨(padJ l z ++ lenB n k).toArray⟩ := ⟨_, rfl⟩
          rw [← hso] at hst
          have HSO := hide hso
          have HE8 := hide e8
          clear hso e8
          go_wp2
          go_ret
          refine ⟨?_, unhide HV⟩
          rw [unhide HSO, unhide HE8, unhide HZZ]
          rfl
    · have q1 : (((l.length : Int) + 1 + (j : Int)) % 64 != 56) = true := by have h := fun h => e (hfe.1 h); simp; omega
      go_wp2_with (at_builtin; refine Om.wpList_append _ rfl (.tmp 16) (.tmp 17) 46 rfl w.heap.size 5 i0 Tryd.underlying46 hi hz0 hz1 hz2 _ (padJ l j) [0] rfl ((unhide HO).alloc _) ⟨wr.heap.size, 0, none⟩ 1 1 rfl rfl (one_cell _ 0 _ _ rfl) ?hb2 ?hba2 ?_)
      case hb2 => rw [padJ_length]; simp; omega
      case hba2 => simp; omega
      intro v2 w2 hown hg
      have hB2 : Below w.heap.size w w2 := ((unhide HW).alloc hwz _).grown hg (by simp; omega) (fun x hx => ((unhide HO).lt x hx).1)
      have hO2 : Om.Has w2 w.heap.size 5 v2 (padJ l (j + 1)) := by rw [padJ_next]; exact hown
      have hsl2 := has_slice hO2 (padJ_length l (j + 1))
      have O2 := hide hO2
      have B2 := hide hB2
      have hjz : j + 1 ≤ z := by omega
      clear hown hg hB2 hO2 hfe e
      go_wp2
      go_roundw
      case rel => exact ⟨j + 1, hjz, O2, B2⟩
      case measure => obtain ⟨g2, c2, rfl⟩ := hsl2; simp [slen]; omega
end Go.Proofs.YtoifihhmneldeaaDoor.Hs
