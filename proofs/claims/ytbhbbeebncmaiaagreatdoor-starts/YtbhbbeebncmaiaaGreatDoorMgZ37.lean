import Derived.Test.YtbhbbeebncmaiaaGreatDoorMgZ48
import Derived.Handy
import Derived.Test.YtbhbbeebncmaiaaGreatDoorMgZ25
import Derived.Test.YtbhbbeebncmaiaaGreatDoorMgZ11
import Derived.Test.YtbhbbeebncmaiaaGreatDoorMgZ26
import Derived.Deep.RegionHeld3
import Derived.Test.YtbhbbeebncmaiaaGreatDoorMgZ04
namespace Go.Proofs.YtbhbbeebncmaiaaGreatDoor.Ref
open Go.ChangeShapes Go.WideShapes Go.ChangeAt Go.RowKit Bs Mac
set_option linter.unusedVariables false
set_option linter.unusedSimpArgs false
variable {w0 : World} {P : Nat → Prop} {w w' : World} {G : Nat} {r r' : Rf}
def waitR (k : Nat) (d : Int) : Int := 2 * 2 ^ k + d % 3 - 1
theorem two_pow_le (k : Nat) (hk : k ≤ 4) : (2 : Int) * 2 ^ k ≤ 32 := by
  match k, hk with
  | 0, _ => decide
  | 1, _ => decide
  | 2, _ => decide
  | 3, _ => decide
  | 4, _ => decide
set_option maxHeartbeats 1000000 in
theorem wait_any (h : Rm w0 P w G r) (k : Nat) (hk : k ≤ 4) (hd : 0 ≤ r.draw ∧ r.draw ≤ 4294967295) : Calls Tryz.prog 41 #[.pointer (some ⟨G, 0, none⟩), .int .i64 k] w fun ee w' => ee = .returned (.int .i64 (waitR k r.draw)) ∧ w' = w := by
  have c17 := h.c17
  have hmod : r.draw.tmod 3 = r.draw % 3 := Int.tmod_eq_emod_of_nonneg hd.1
  have hwm : IntKind.u32.wrap (r.draw % 3) = r.draw % 3 := by rw [IntKind.wrap_u32]; omega
  have hwi : IntKind.i64.wrap (r.draw % 3) = r.draw % 3 := wrap_i64 _ (by omega) (by omega)
  clear h
  go_enter Tryz.func41, Tryz.ntmps41
  go_wp2
  go_loopw [1, 5] (fun i n wr => ∃ j : Nat, j ≤ k ∧ i = .int .i64 ((k - j : Nat) : Int) ∧ n = .int .i64 (2 * 2 ^ j) ∧ wr = w) (fun i _ _ => (intOf i).toNat)
  case atStart => exact ⟨0, Nat.zero_le _, by simp, by simp, rfl⟩
  case round =>
    obtain ⟨j, hj, rfl, rfl, rfl⟩ := hrel
    have hb := two_pow_le j (by omega)
    have hp : (0 : Int) < 2 ^ j := Int.pow_pos (by decide)
    by_cases hlt : j < k
    · have h0 : (0 : Int) < ((k - j : Nat) : Int) := by omega
      have hw1 : IntKind.i64.wrap (2 * (2 * 2 ^ j)) = 2 * (2 * 2 ^ j) := wrap_i64 _ (by omega) (by omega)
      have hw2 : IntKind.i64.wrap (((k - j : Nat) : Int) - 1) = ((k - j : Nat) : Int) - 1 := wrap_i64 _ (by omega) (by omega)
      go_wp2
      go_roundw
      case rel => exact ⟨j + 1, by omega, by congr 1; omega, by congr 1; rw [Int.pow_succ]; omega, by first | rfl | trivial⟩
      case measure => simp [intOf]; omega
    · have e0 : k - j = 0 := by omega
      have e1 : j = k := by omega
      subst e1
      have hw3 : IntKind.i64.wrap (2 * 2 ^ j + r.draw % 3) = 2 * 2 ^ j + r.draw % 3 := wrap_i64 _ (by omega) (by omega)
      have hw4 : IntKind.i64.wrap (2 * 2 ^ j + r.draw % 3 - 1) = 2 * 2 ^ j + r.draw % 3 - 1 := wrap_i64 _ (by omega) (by omega)
      rw [e0]
      go_wp2
      go_ret
      refine ⟨?_, rfl⟩
      unfold waitR
      first | rfl | simp [hmod, hwm, hwi, hw3, hw4]

def Rf.sentV (r : Rf) (F : ByteArray) (v : Value) : Rf := if r.tl.length = r.tx then { r with lost := wrap64 (r.lost + 1) } else { r with tv := v, tl := r.tl ++ [F] }
theorem row6m {u : World} {g : Nat} {t : TypeId} {a0 a1 a2 a3 a4 a5 : Value} (h : u.heap[g]? = some (.cells #[a0, a1, a2, a3, a4, a5] t (0, 0))) :
    u.cell? ⟨g, 0, none⟩ = some a0 ∧ u.cell? ⟨g, 1, none⟩ = some a1 ∧ u.cell? ⟨g, 2, none⟩ = some a2 ∧ u.cell? ⟨g, 3, none⟩ = some a3 ∧ u.cell? ⟨g, 4, none⟩ = some a4 ∧ u.cell? ⟨g, 5, none⟩ = some a5 := by
  have q := fun j => cell_of_row u g j _ _ _ h
  exact ⟨q 0, q 1, q 2, q 3, q 4, q 5⟩
def Sd (G g : Nat) (r : Rf) (a b c d e f : UInt8) (u : World) : Prop := (u.cell? ⟨g, 0, none⟩ = some (.int .u8 a.toNat) ∧ u.cell? ⟨g, 1, none⟩ = some (.int .u8 b.toNat) ∧ u.cell? ⟨g, 2, none⟩ = some (.int .u8 c.toNat) ∧ u.cell? ⟨g, 3, none⟩ = some (.int .u8 d.toNat) ∧ u.cell? ⟨g, 4, none⟩ = some (.int .u8 e.toNat) ∧ u.cell? ⟨g, 5, none⟩ = some (.int .u8 f.toNat)) ∧ u.cell? ⟨G, 1, none⟩ = some (.int .u8 r.k0.toNat) ∧ u.cell? ⟨G, 2, none⟩ = some (.int .u8 r.k1.toNat) ∧ u.cell? ⟨G, 3, none⟩ = some (.int .u8 r.k2.toNat) ∧ u.cell? ⟨G, 4, none⟩ = some (.int .u8 r.k3.toNat) ∧ u.cell? ⟨G, 5, none⟩ = some (.int .u8 r.k4.toNat) ∧ u.cell? ⟨G, 6, none⟩ = some (.int .u8 r.k5.toNat)
theorem Sd.below {g : Nat} {a b c d e f : UInt8} {u u' : World} (h : Sd G g r a b c d e f u) (hb : Below u.heap.size u u') : Sd G g r a b c d e f u' := by
  obtain ⟨⟨h0, h1, h2, h3, h4, h5⟩, g1, g2, g3, g4, g5, g6⟩ := h
  have q : ∀ {p : Addr} {v : Value}, u.cell? p = some v → u'.cell? p = some v := fun {p v} hp => (hb.cell (World.block_lt_of_cell? u p hp)).trans hp
  exact ⟨⟨q h0, q h1, q h2, q h3, q h4, q h5⟩, q g1, q g2, q g3, q g4, q g5, q g6⟩
set_option maxHeartbeats 4000000 in
set_option maxRecDepth 10000 in
theorem send_any (h : Rm w0 P w G r) (a b c d e f : UInt8) (ty : Int) (load F : ByteArray) (k : Int) (htx : r.tx ≤ 16) (htl : r.tl.length ≤ r.tx)
    (hF : ∀ u, Calls Tryz.prog 133 #[.agg #[.int .u8 a.toNat, .int .u8 b.toNat, .int .u8 c.toNat, .int .u8 d.toNat, .int .u8 e.toNat, .int .u8 f.toNat, .int .u8 r.k0.toNat, .int .u8 r.k1.toNat, .int .u8 r.k2.toNat, .int .u8 r.k3.toNat, .int .u8 r.k4.toNat, .int .u8 r.k5.toNat, .int .u16 ty, .string load]] u fun e u' => e = .returned (.tuple #[.string F, .int .i64 k]) ∧ Below u.heap.size u u') :
    Calls Tryz.prog 90 #[.pointer (some ⟨G, 0, none⟩), .agg #[.int .u8 a.toNat, .int .u8 b.toNat, .int .u8 c.toNat, .int .u8 d.toNat, .int .u8 e.toNat, .int .u8 f.toNat], .int .u16 ty, .string load] w fun ee w' => ee = .returned (.tuple #[]) ∧ ∃ v, Rm w0 P w' G (r.sentV F v) := by
  obtain ⟨i0, hi, hz0, hz1, hz2⟩ := info_parts infoS
  have HM1 := hide (h.alloc (.cells #[.int .u8 a.toNat, .int .u8 b.toNat, .int .u8 c.toNat, .int .u8 d.toNat, .int .u8 e.toNat, .int .u8 f.toNat] 26))
  have HB1 : Hid ((w.alloc (.cells #[.int .u8 a.toNat, .int .u8 b.toNat, .int .u8 c.toNat, .int .u8 d.toNat, .int .u8 e.toNat, .int .u8 f.toNat] 26)).heap[w.heap.size]? = some (.cells #[.int .u8 a.toNat, .int .u8 b.toNat, .int .u8 c.toNat, .int .u8 d.toNat, .int .u8 e.toNat, .int .u8 f.toNat] 26 (0, 0))) := hide (heap_alloc_new w _)
  have HS1 : Hid (Sd G w.heap.size r a b c d e f (w.alloc (.cells #[.int .u8 a.toNat, .int .u8 b.toNat, .int .u8 c.toNat, .int .u8 d.toNat, .int .u8 e.toNat, .int .u8 f.toNat] 26))) := hide ⟨row6m (unhide HB1), (unhide HM1).c1, (unhide HM1).c2, (unhide HM1).c3, (unhide HM1).c4, (unhide HM1).c5, (unhide HM1).c6⟩
  obtain ⟨v, hv⟩ : ∃ v, v = w.alloc (.cells #[.int .u8 a.toNat, .int .u8 b.toNat, .int .u8 c.toNat, .int .u8 d.toNat, .int .u8 e.toNat, .int .u8 f.toNat] 26) := ⟨_, rfl⟩
  rw [← hv] at HM1 HB1 HS1
  have HV := hide hv
  have HF : Hid (Calls Tryz.prog 133 #[.agg #[.int .u8 a.toNat, .int .u8 b.toNat, .int .u8 c.toNat, .int .u8 d.toNat, .int .u8 e.toNat, .int .u8 f.toNat, .int .u8 r.k0.toNat, .int .u8 r.k1.toNat, .int .u8 r.k2.toNat, .int .u8 r.k3.toNat, .int .u8 r.k4.toNat, .int .u8 r.k5.toNat, .int .u16 ty, .string load]] v.drew fun e1 u' => e1 = .returned (.tuple #[.string F, .int .i64 k]) ∧ Hid (Below v.heap.size v u') ∧ Sd G w.heap.size r a b c d e f u') := hide (by
    refine (hF v.drew).mono ?_
    rintro e1 u' ⟨rfl, hb⟩
    have hb' : Below v.heap.size v u' := ((Below.refl v.heap.size v).drew).trans hb
    exact ⟨rfl, hide hb', (unhide HS1).below hb'⟩)
  clear h hF hv
  go_enter Tryz.func90, Tryz.ntmps90
  go_wp2
  rw [← unhide HV]
  obtain ⟨⟨x0, x1, x2, x3, x4, x5⟩, g1, g2, g3, g4, g5, g6⟩ := unhide HS1
  go_region_held3 (fun u => (u.cell? ⟨w.heap.size, 0, none⟩ = some (.int .u8 a.toNat) ∧ u.cell? ⟨w.heap.size, 1, none⟩ = some (.int .u8 b.toNat) ∧ u.cell? ⟨w.heap.size, 2, none⟩ = some (.int .u8 c.toNat) ∧ u.cell? ⟨w.heap.size, 3, none⟩ = some (.int .u8 d.toNat) ∧ u.cell? ⟨w.heap.size, 4, none⟩ = some (.int .u8 e.toNat) ∧ u.cell? ⟨w.heap.size, 5, none⟩ = some (.int .u8 f.toNat) ∧ u.cell? ⟨G, 1, none⟩ = some (.int .u8 r.k0.toNat) ∧ u.cell? ⟨G, 2, none⟩ = some (.int .u8 r.k1.toNat) ∧ u.cell? ⟨G, 3, none⟩ = some (.int .u8 r.k2.toNat) ∧ u.cell? ⟨G, 4, none⟩ = some (.int .u8 r.k3.toNat) ∧ u.cell? ⟨G, 5, none⟩ = some (.int .u8 r.k4.toNat) ∧ u.cell? ⟨G, 6, none⟩ = some (.int .u8 r.k5.toNat))) (go_keep)
    (first | (go_at_call 133; refine (unhide HF).mono ?_; rintro ee u1 ⟨rfl, HU1, ⟨y0, y1, y2, y3, y4, y5⟩, f1, f2, f3, f4, f5, f6⟩))
  clear x0 x1 x2 x3 x4 x5 g1 g2 g3 g4 g5 g6 y0 y1 y2 y3 y4 y5 f1 f2 f3 f4 f5 f6
  have HM2 := hide ((unhide HM1).below (unhide HU1))
  obtain ⟨ao, cp, htv⟩ := own_sl (unhide HM2).goes
  have c13 := (unhide HM2).c13
  have c15 := (unhide HM2).c15
  have c19 := (unhide HM2).c19
  have f19 := (unhide HM2).free 19
  rw [htv] at c15
  have HTV := hide htv
  by_cases hful : r.tl.length = r.tx
  · have hq : ((r.tl.length : Int) == (r.tx : Int)) = true := by simp [hful]
    have HFUL := hide hful
    clear htv hful
    go_wp2
    go_quiet (fail)
    go_wp2
    go_end0
    refine ⟨rfl, .slice none 0 0, ?_⟩
    unfold Rf.sentV
    rw [if_pos (unhide HFUL)]
    have hL : Rm w0 P (u1.drewN nq) G r := (unhide HM2).like ⟨rfl, rfl, rfl, rfl⟩
    exact hL.s19 _
  · have hq : ((r.tl.length : Int) == (r.tx : Int)) = false := by rw [beq_eq_false_iff_ne]; omega
    have HFUL := hide hful
    have hlen : r.tl.length ≤ 16 := by omega
    clear htv hful htx htl
    go_wp2
    go_quiet (fail)
    obtain ⟨u, hu⟩ : ∃ u, u = u1.drewN nq := ⟨_, rfl⟩
    have HMu : Hid (Rm w0 P u G r) := hide (by rw [hu]; exact (unhide HM2).like ⟨rfl, rfl, rfl, rfl⟩)
    rw [← hu]
    have d15 := (unhide HMu).c15
    rw [unhide HTV] at d15
    have g15 := (unhide HMu).free 15
    clear hu c13 c15 c19 f19 HM2 HU1 HM1 HB1 HS1 HF HV
    go_wp2_with (at_builtin; refine wpList_append_mine rfl (.tmp 45) (.tmp 47) 49 rfl 0 9 i0 (.string ⟨#[]⟩) 1 16 Tryz.underlying49 hi hz0 hz1 hz2 rfl (by decide) r.tv r.tl.length (strs r.tl) ?ev ((unhide HMu).goes.alloc _) ⟨u.heap.size, 0, none⟩ 1 1 [.string F] ?ad rfl ?c1 ?one ?h63 ?hby ?hba ?_)
    case ev => rw [unhide HTV]; rfl
    case ad => rfl
    case c1 => exact cell_new u [.string F] 9
    case one => intro x hx; simp at hx; subst hx; rfl
    case h63 => simp only [maxLen]; omega
    case hby => omega
    case hba => exact Nat.zero_le _
    intro v' w2 hown hg hf
    have HA := (unhide HMu).alloc (.cells #[.string F] 9)
    have hrow := HA.after hg (Or.inr (Or.inr rfl))
    have e15 := (World.cell?_of_block (w := u.alloc (.cells #[.string F] 9)) (a := ⟨G, 15, none⟩) hrow).trans HA.c15
    have k15 := (World.frozen?_of_block (w := u.alloc (.cells #[.string F] 9)) (a := ⟨G, 15, none⟩) hrow).trans (HA.free 15)
    have HN := hide (HA.rowsT (r' := { r with tv := v', tl := r.tl ++ [F] }) (l := r.tl ++ [F]) hg (Or.inr rfl) (by
      have e1 : (r.tl ++ [F]).length = r.tl.length + 1 := by simp
      have e2 : strs (r.tl ++ [F]) = strs r.tl ++ [.string F] := by simp [strs]
      rw [e1, e2]; exact hown) (by
        rcases hf with h | h
        · exact Or.inr (Or.inl h)
        · obtain ⟨g, a, b⟩ := h
          exact Or.inr (Or.inr ⟨g, a, by simpa using b⟩)) rfl rfl rfl rfl rfl)
    obtain ⟨a2, c2, hv2⟩ := own_sl hown
    clear hown hg hf HA hrow d15 g15
    subst hv2
    go_wp2
    go_end0
    refine ⟨rfl, .slice a2 (r.tl.length + 1) c2, ?_⟩
    unfold Rf.sentV
    rw [if_neg (unhide HFUL)]
    exact unhide HN
end Go.Proofs.YtbhbbeebncmaiaaGreatDoor.Ref
namespace Go.Proofs.YtbhbbeebncmaiaaGreatDoor.Ref
open Go.ChangeShapes Go.WideShapes Go.ChangeAt Go.RowKit Bs Mac
set_option linter.unusedVariables false
set_option linter.unusedSimpArgs false
variable {w0 : World} {P : Nat → Prop} {w w' : World} {G : Nat} {r r' : Rf}
theorem wrapI (x : Int) : IntKind.i64.wrap x = wrap64 x := by
  unfold wrap64
  first | (rw [IntKind.wrap_i64]; done) | (rw [IntKind.wrap_i64]; omega) | (rw [IntKind.wrap_i64]; split <;> omega) | (simp [IntKind.wrap]; omega)
set_option maxHeartbeats 1000000 in
theorem over_yes (h : Rm w0 P w G r) (hp : r.phase = 4) : Calls Tryz.prog 37 #[.pointer (some ⟨G, 0, none⟩)] w fun ee w' => ee = .returned (.bool true) ∧ w' = w := by
  have c34 := h.c34
  rw [hp] at c34
  clear h
  go_enter Tryz.func37, Tryz.ntmps37
  go_wp2
  go_ret
  exact ⟨rfl, rfl⟩
set_option maxHeartbeats 1000000 in
theorem tick_over (h : Rm w0 P w G r) (hp : r.phase = 4) (d : Int) : Calls Tryz.prog 22 #[.pointer (some ⟨G, 0, none⟩), .int .u32 d] w fun ee w' => ee = .returned (.tuple #[]) ∧ Rm w0 P w' G { r with now := wrap64 (r.now + 1), draw := d } := by
  obtain ⟨N, hN⟩ : ∃ N, N = wrap64 (r.now + 1) := ⟨_, rfl⟩
  have hw : IntKind.i64.wrap (r.now + 1) = N := by rw [hN, wrapI]
  rw [← hN]
  clear hN
  have h1 : Rm w0 P (w.setCell ⟨G, 16, none⟩ (.int .i64 N)) G { r with now := N } := h.s16 _
  have h2 : Rm w0 P ((w.setCell ⟨G, 16, none⟩ (.int .i64 N)).setCell ⟨G, 17, none⟩ (.int .u32 d)) G { r with now := N, draw := d } := h1.s17 _
  have HO := hide (over_yes h2 hp)
  have H2 := hide h2
  have c16 := h.c16
  have f16 := h.free 16
  have c17 := h1.c17
  have f17 := h1.free 17
  clear h h1 h2
  go_enter Tryz.func22, Tryz.ntmps22
  go_wp2_with fail
  refine (unhide HO).mono ?_
  rintro ee u ⟨rfl, rfl⟩
  go_wp2
  go_returns
  exact ⟨rfl, unhide H2⟩

set_option maxHeartbeats 2000000 in
set_option maxRecDepth 10000 in
theorem packet_off (h : Rm w0 P w G r) (hl : r.lease < 4) (ta : Int) (load U S : ByteArray) (kU kI : Int)
    (hU : ∀ u, Calls Tryz.prog 136 #[.agg #[.int .u16 68, .int .u16 67, .string load], .int .u32 0, .int .u32 ta] u fun e u' => e = .returned (.tuple #[.string U, .int .i64 kU]) ∧ Below u.heap.size u u')
    (hI : ∀ u, Calls Tryz.prog 137 #[.agg #[.int .u16 (r.id % 65536), .int .u8 64, .int .u8 17, .int .u32 0, .int .u32 ta, .string U]] u fun e u' => e = .returned (.tuple #[.string S, .int .i64 kI]) ∧ Below u.heap.size u u') :
    Calls Tryz.prog 95 #[.pointer (some ⟨G, 0, none⟩), .int .u32 ta, .int .i64 68, .int .i64 67, .string load] w fun ee w' => ee = .returned (.string S) ∧ Rm w0 P w' G { r with id := wrap64 (r.id + 1) } := by
  obtain ⟨N, hN⟩ : ∃ N, N = wrap64 (r.id + 1) := ⟨_, rfl⟩
  rw [← hN]
  have HA : Hid (∀ u, Rm w0 P u G r → Calls Tryz.prog 46 #[.pointer (some ⟨G, 0, none⟩)] u fun ee w' => ee = .returned (.int .u32 0) ∧ w' = u) := hide (fun u hu => address_off hu hl)
  have HM := hide h
  have HU := hide hU
  have HI := hide hI
  have hw16 : IntKind.u16.wrap r.id = r.id % 65536 := by rw [IntKind.wrap_u16]
  have hw64 : IntKind.i64.wrap (r.id + 1) = N := by rw [hN, wrapI]
  clear hN
  clear h hU hI
  go_enter Tryz.func95, Tryz.ntmps95
  go_wp2_with fail
  refine (unhide HA w (unhide HM)).mono ?_
  rintro ee u ⟨rfl, rfl⟩
  go_wp2_with fail
  refine (unhide HU _).mono ?_
  rintro ee u1 ⟨rfl, hb1⟩
  have HM1 := hide ((unhide HM).below hb1)
  clear hb1 HU HM
  have c20 := (unhide HM1).c20
  have HA1 : Hid (Calls Tryz.prog 46 #[.pointer (some ⟨G, 0, none⟩)] u1.drew fun ee w' => ee = .returned (.int .u32 0) ∧ w' = u1.drew) := hide (unhide HA u1.drew (unhide HM1).drew)
  have HI1 : Hid (Calls Tryz.prog 137 #[.agg #[.int .u16 (r.id % 65536), .int .u8 64, .int .u8 17, .int .u32 0, .int .u32 ta, .string U]] u1.drew fun e u' => e = .returned (.tuple #[.string S, .int .i64 kI]) ∧ Hid (Below u1.heap.size u1 u') ∧ u'.cell? ⟨G, 20, none⟩ = some (.int .i64 r.id)) := hide (by
    refine (unhide HI u1.drew).mono ?_
    rintro e u' ⟨rfl, hb⟩
    have hb' : Below u1.heap.size u1 u' := ((Below.refl u1.heap.size u1).drew).trans hb
    have hc := (unhide HM1).c20
    exact ⟨rfl, hide hb', (hb'.cell (World.block_lt_of_cell? u1 _ hc)).trans hc⟩)
  go_wp2
  go_region_held3 (fun u => u.cell? ⟨G, 20, none⟩ = some (.int .i64 r.id)) (go_keep)
    (first | (go_at_call 46; refine (unhide HA1).mono ?_; rintro ee u2 ⟨rfl, rfl⟩) | (go_at_call 137; refine (unhide HI1).mono ?_; rintro ee u3 ⟨rfl, HB3, y20⟩))
  have HM3 := hide ((unhide HM1).below (unhide HB3))
  clear c20
  have d20 := (unhide HM3).c20
  have f20 := (unhide HM3).free 20
  clear y20
  go_wp2
  go_ret
  have hL := (unhide HM3).s20 N
  exact ⟨rfl, hL⟩
end Go.Proofs.YtbhbbeebncmaiaaGreatDoor.Ref
namespace Go.Proofs.YtbhbbeebncmaiaaGreatDoor.Dh
open Go.ChangeShapes Go.WideShapes Go.ChangeAt Go.RowKit Bs Rb Wt
open Arp (big4 ip_lit below_cells)
open Ip (conv2)
set_option linter.unusedVariables false
set_option linter.unusedSimpArgs false
theorem zero_full (L : List UInt8) (n : Nat) : zeroS ⟨L.toArray⟩ n = ⟨(L ++ List.replicate (n - L.length) 0).toArray⟩ := by
  rw [zeroS, str_size]
  split
  · rename_i h
    have e3 : n - L.length = 0 := by omega
    rw [e3]; simp
  · exact add_str L _
theorem new_two (u : World) (x y : Int) (g : Nat) (hg : g = u.heap.size) : (u.alloc (.cells #[.int .u8 x, .int .u8 y] 5)).cell? ⟨g, 0, none⟩ = some (.int .u8 x) ∧ (u.alloc (.cells #[.int .u8 x, .int .u8 y] 5)).cell? ⟨g, 1, none⟩ = some (.int .u8 y) := by
  subst hg
  constructor
  · rw [cell_of_row _ u.heap.size 0 _ _ (0, 0) (heap_alloc_new u _)]; rfl
  · rw [cell_of_row _ u.heap.size 1 _ _ (0, 0) (heap_alloc_new u _)]; rfl
theorem conv_two (u : World) (x y : Int) (hx : 0 ≤ x ∧ x ≤ 255) (hy : 0 ≤ y ∧ y ≤ 255) : (convert 55 9 (.slice (some ⟨u.heap.size, 0, none⟩) 2 2)).run Tryz.prog (u.alloc (.cells #[.int .u8 x, .int .u8 y] 5)) = .ok (.string ⟨#[by8 x, by8 y]⟩) (u.alloc (.cells #[.int .u8 x, .int .u8 y] 5)) :=
  conv2 _ _ x y hx hy (new_two u x y _ rfl).1 (new_two u x y _ rfl).2
theorem ip_zero (w : World) : Calls Tryz.prog 91 #[.int .u32 0] w fun e w' => e = .returned (.string ⟨#[0, 0, 0, 0]⟩) ∧ Below w.heap.size w w' := by
  refine (ip_lit 0 w (by omega) (by omega)).mono ?_
  rintro e w1 ⟨rfl, h⟩
  exact ⟨rfl, h⟩
theorem conv_drew (u : World) (x y : Int) (hx : 0 ≤ x ∧ x ≤ 255) (hy : 0 ≤ y ∧ y ≤ 255) : (convert 55 9 (.slice (some ⟨u.heap.size, 0, none⟩) 2 2)).run Tryz.prog (u.alloc (.cells #[.int .u8 x, .int .u8 y] 5)).drew = .ok (.string ⟨#[by8 x, by8 y]⟩) (u.alloc (.cells #[.int .u8 x, .int .u8 y] 5)).drew :=
  conv2 _ _ x y hx hy (new_two u x y _ rfl).1 (new_two u x y _ rfl).2
theorem zero_end (X A : List UInt8) (t z : ByteArray) (hT : t = ⟨X.toArray⟩) (hA : X ++ [255] = A) (hz : z = ⟨(fullL A).toArray⟩) (hl : X.length ≤ 1000000000) (u : World) :
    Calls Tryz.prog 135 #[.string (t ++ ⟨#[255]⟩), .int .i64 300] u fun ee w' => ee = .returned (.string z) ∧ Below u.heap.size u w' := by
  have e1 : t ++ ⟨#[255]⟩ = ⟨A.toArray⟩ := by rw [hT, ← hA]; exact add_str X [255]
  have hAl : A.length ≤ 1000000001 := by rw [← hA, List.length_append, List.length_cons, List.length_nil]; omega
  rw [e1]
  refine (zero_any ⟨A.toArray⟩ 300 u (by rw [str_size]; omega) (by omega)).mono ?_
  rintro ee w' ⟨rfl, hb⟩
  exact ⟨by rw [zero_full, hz, fullL], hb⟩
theorem head_join (op fl xid cl yo ne : Int) (a b c d e f : UInt8) (p q r : ByteArray) (hp : p = ⟨#[by8 op, 1, 6, 0]⟩) (hq : q = ⟨(word8 fl).toArray⟩) (hr : r = ⟨(bigL cl 4).toArray⟩) :
    zeroS (p ++ (⟨#[by8 (xid / 256 / 256 / 256), by8 (xid / 256 / 256), by8 (xid / 256), by8 xid]⟩ ++ ⟨#[0, 0]⟩) ++ q ++ r ++ ⟨#[by8 (yo / 256 / 256 / 256), by8 (yo / 256 / 256), by8 (yo / 256), by8 yo]⟩ ++ ⟨#[by8 (ne / 256 / 256 / 256), by8 (ne / 256 / 256), by8 (ne / 256), by8 ne]⟩ ++ ⟨#[0, 0, 0, 0]⟩ ++ ⟨#[a, b, c, d, e, f]⟩) 236 ++ ⟨#[99, 130, 83, 99]⟩ = ⟨(headL op fl xid cl yo ne [a, b, c, d, e, f]).toArray⟩ := by
  have e1 : p ++ (⟨#[by8 (xid / 256 / 256 / 256), by8 (xid / 256 / 256), by8 (xid / 256), by8 xid]⟩ ++ ⟨#[0, 0]⟩) ++ q ++ r ++ ⟨#[by8 (yo / 256 / 256 / 256), by8 (yo / 256 / 256), by8 (yo / 256), by8 yo]⟩ ++ ⟨#[by8 (ne / 256 / 256 / 256), by8 (ne / 256 / 256), by8 (ne / 256), by8 ne]⟩ ++ ⟨#[0, 0, 0, 0]⟩ ++ ⟨#[a, b, c, d, e, f]⟩ = ⟨(preL op fl xid cl yo ne [a, b, c, d, e, f]).toArray⟩ := by
    rw [hp, hq, hr, preL]
    simp only [dwords8, List.flatMap_cons, List.flatMap_nil, ← big4]
    apply ByteArray.ext
    apply Array.ext'
    simp [ByteArray.data_append, bigL, word8, words8]
    decide
  rw [e1, zero_full, preL_length]
  rfl

theorem six_cells' {w u : World} {cs : Array Value} {t : TypeId} (h : Below (w.alloc (.cells cs t)).heap.size (w.alloc (.cells cs t)) u) : ∀ j, u.cell? ⟨w.heap.size, j, none⟩ = cs[j]? := fun j => by
  rw [h.cell (p := ⟨w.heap.size, j, none⟩) (by simp), cell_of_row _ w.heap.size j cs t (0, 0) (heap_alloc_new w _)]
theorem cells_on {W u : World} {b n : Nat} {cs : Array Value} (h : ∀ j, W.cell? ⟨b, j, none⟩ = cs[j]?) (hb : b < n) (hB : Below n W u) : ∀ j, u.cell? ⟨b, j, none⟩ = cs[j]? := fun j => by
  rw [hB.cell (p := ⟨b, j, none⟩) hb]; exact h j

set_option maxHeartbeats 16000000 in
set_option maxRecDepth 10000 in
theorem ref_rz (xid yo ne : Int) (a b c d e f : UInt8) (sa : Option Addr) (sc : Nat) (os : Opts) (w : World) (hx : 0 ≤ xid ∧ xid ≤ 4294967295) (hy : 0 ≤ yo ∧ yo ≤ 4294967295) (hn : 0 ≤ ne ∧ ne ≤ 4294967295) (hA : At w sa os) (hl : heavy os ≤ 2097152) :
    Calls Tryz.prog 94 #[.agg #[.bool true, .int .u32 xid, .int .u32 0, .int .u32 yo, .int .u32 ne, .int .u8 a.toNat, .int .u8 b.toNat, .int .u8 c.toNat, .int .u8 d.toNat, .int .u8 e.toNat, .int .u8 f.toNat, .slice sa os.length sc]] w fun ee w' =>
      ee = .returned (.tuple #[.string (dhS true xid 0 yo ne [a, b, c, d, e, f] os), .int .i64 (dhE true xid 0 yo ne [a, b, c, d, e, f] os)]) ∧ Below w.heap.size w w' := by
  have hlen : os.length ≤ heavy os := by unfold heavy; omega
  have hh8 := opts8_heavy os
  obtain ⟨hx0, hx1⟩ := hx
  obtain ⟨hy0, hy1⟩ := hy
  obtain ⟨hn0, hn1⟩ := hn
  have hcl0 := True.intro
  have hcl1 := True.intro
  have hqx : IntKind.i64.wrap xid = xid := wrap_i64 _ (by omega) (by omega)
  have HBX := hide (big_any xid 4 (w.alloc (.cells #[.bool true, .int .u32 xid, .int .u32 0, .int .u32 yo, .int .u32 ne, .int .u8 a.toNat, .int .u8 b.toNat, .int .u8 c.toNat, .int .u8 d.toNat, .int .u8 e.toNat, .int .u8 f.toNat, .slice sa os.length sc] 127)) hx0 (by omega) (by omega))
  obtain ⟨H, hH⟩ : ∃ H, H = headL 2 32768 xid 0 yo ne [a, b, c, d, e, f] := ⟨_, rfl⟩
  have hHl : H.length = 240 := by rw [hH]; exact headL_length _ _ _ _ _ _ _ rfl
  have HJ : Hid (zeroS ((⟨#[2, 1, 6, 0]⟩ : ByteArray) ++ (⟨#[by8 (xid / 256 / 256 / 256), by8 (xid / 256 / 256), by8 (xid / 256), by8 xid]⟩ ++ ⟨#[0, 0]⟩) ++ (⟨#[128, 0]⟩ : ByteArray) ++ ⟨#[0, 0, 0, 0]⟩ ++ ⟨#[by8 (yo / 256 / 256 / 256), by8 (yo / 256 / 256), by8 (yo / 256), by8 yo]⟩ ++ ⟨#[by8 (ne / 256 / 256 / 256), by8 (ne / 256 / 256), by8 (ne / 256), by8 ne]⟩ ++ ⟨#[0, 0, 0, 0]⟩ ++ ⟨#[a, b, c, d, e, f]⟩) 236 ++ ⟨#[99, 130, 83, 99]⟩ = ⟨H.toArray⟩) := hide (by rw [hH]; exact head_join 2 32768 xid 0 yo ne a b c d e f _ _ _ rfl rfl (by first | rfl | decide))
  have HALL : Hid (H ++ opts8 os ++ [255] = allL true xid 0 yo ne [a, b, c, d, e, f] os) := hide (by rw [hH]; rfl)
  have hzs : (zeroS ((⟨#[2, 1, 6, 0]⟩ : ByteArray) ++ (⟨#[by8 (xid / 256 / 256 / 256), by8 (xid / 256 / 256), by8 (xid / 256), by8 xid]⟩ ++ ⟨#[0, 0]⟩) ++ (⟨#[128, 0]⟩ : ByteArray) ++ ⟨#[0, 0, 0, 0]⟩ ++ ⟨#[by8 (yo / 256 / 256 / 256), by8 (yo / 256 / 256), by8 (yo / 256), by8 yo]⟩ ++ ⟨#[by8 (ne / 256 / 256 / 256), by8 (ne / 256 / 256), by8 (ne / 256), by8 ne]⟩ ++ ⟨#[0, 0, 0, 0]⟩ ++ ⟨#[a, b, c, d, e, f]⟩) 236).size + 4 = 240 := by
    have q := congrArg ByteArray.size (unhide HJ)
    rw [ByteArray.size_append, str_size] at q
    have q2 := q.trans hHl
    exact q2
  have haddZ := fun u => run_string_add_sum (P := Tryz.prog) u (zeroS ((⟨#[2, 1, 6, 0]⟩ : ByteArray) ++ (⟨#[by8 (xid / 256 / 256 / 256), by8 (xid / 256 / 256), by8 (xid / 256), by8 xid]⟩ ++ ⟨#[0, 0]⟩) ++ (⟨#[128, 0]⟩ : ByteArray) ++ ⟨#[0, 0, 0, 0]⟩ ++ ⟨#[by8 (yo / 256 / 256 / 256), by8 (yo / 256 / 256), by8 (yo / 256), by8 yo]⟩ ++ ⟨#[by8 (ne / 256 / 256 / 256), by8 (ne / 256 / 256), by8 (ne / 256), by8 ne]⟩ ++ ⟨#[0, 0, 0, 0]⟩ ++ ⟨#[a, b, c, d, e, f]⟩) 236) ⟨#[99, 130, 83, 99]⟩ (by show _ + 4 ≤ _; omega)
  have HA := hide hA
  clear hA hH hzs
  go_enter Tryz.func94, Tryz.ntmps94
  go_wp2_with fail
  refine (unhide HBX).mono ?_
  rintro ee w1 ⟨rfl, hb1⟩
  have hcW := six_cells' hb1
  have hzW : w.heap.size + 1 ≤ w1.heap.size := by have := hb1.size; simpa using this
  have HW1 : Hid (Below w.heap.size w w1) := hide (((Below.refl _ _).alloc (Nat.le_refl _) _).trans (hb1.mono (by simp)))
  clear hb1 HBX
  simp only [bigL, List.nil_append, List.cons_append]
  obtain ⟨W1, hW1⟩ : ∃ W1, W1 = w1 := ⟨_, rfl⟩
  rw [← hW1] at hcW hzW HW1
  subst hW1
  have HCW := hide hcW
  have HHZ := hide (show ((⟨#[2, 1, 6, 0]⟩ : ByteArray) ++ (⟨#[by8 (xid / 256 / 256 / 256), by8 (xid / 256 / 256), by8 (xid / 256), by8 xid]⟩ ++ ⟨#[0, 0]⟩) ++ (⟨#[128, 0]⟩ : ByteArray) ++ ⟨#[0, 0, 0, 0]⟩ ++ ⟨#[by8 (yo / 256 / 256 / 256), by8 (yo / 256 / 256), by8 (yo / 256), by8 yo]⟩ ++ ⟨#[by8 (ne / 256 / 256 / 256), by8 (ne / 256 / 256), by8 (ne / 256), by8 ne]⟩ ++ ⟨#[0, 0, 0, 0]⟩ ++ ⟨#[a, b, c, d, e, f]⟩).size ≤ 1099511627776 by show 34 ≤ _; omega)
  have hB1 : Below W1.heap.size W1 W1 := Below.refl _ _
  have hcc1 := hcW
  clear hcW
  go_wp2
  go_cut [4] (fun s4 wc => s4 = .string ⟨H.toArray⟩ ∧ Hid (Below W1.heap.size W1 wc))
  case first =>
    go_region_held3 (fun u => u.cell? ⟨w.heap.size, 2, none⟩ = some (.int .u32 0) ∧ u.cell? ⟨w.heap.size, 3, none⟩ = some (.int .u32 yo) ∧ u.cell? ⟨w.heap.size, 4, none⟩ = some (.int .u32 ne) ∧ u.cell? ⟨w.heap.size, 5, none⟩ = some (.int .u8 a.toNat) ∧ u.cell? ⟨w.heap.size, 6, none⟩ = some (.int .u8 b.toNat) ∧ u.cell? ⟨w.heap.size, 7, none⟩ = some (.int .u8 c.toNat) ∧ u.cell? ⟨w.heap.size, 8, none⟩ = some (.int .u8 d.toNat) ∧ u.cell? ⟨w.heap.size, 9, none⟩ = some (.int .u8 e.toNat) ∧ u.cell? ⟨w.heap.size, 10, none⟩ = some (.int .u8 f.toNat)) (go_keep)
      (first | (go_at_call 91; refine (ip_zero _).mono ?_; rintro ee u1 ⟨rfl, hb1⟩; have hB1 : Below W1.heap.size W1 u1 := (by first | exact hB1.trans (hb1.mono hB1.size) | exact hB1.drew.trans (hb1.mono hB1.size)); have hcc1 := cells_on (unhide HCW) (by omega) hB1; have hzz1 := hB1.size; clear hb1) | (go_at_call 91; refine (ip_lit _ _ (by omega) (by omega)).mono ?_; rintro ee u1 ⟨rfl, hb1⟩; have hB1 : Below W1.heap.size W1 u1 := (by first | exact hB1.trans (hb1.mono hB1.size) | exact hB1.drew.trans (hb1.mono hB1.size)); have hcc1 := cells_on (unhide HCW) (by omega) hB1; have hzz1 := hB1.size; clear hb1) | (go_at_call 132; refine (mac_any _ _ _ _ _ _ _).mono ?_; rintro ee u1 ⟨rfl, hb1⟩; have hB1 : Below W1.heap.size W1 u1 := (by first | exact hB1.trans (hb1.mono hB1.size) | exact hB1.drew.trans (hb1.mono hB1.size)); have hcc1 := cells_on (unhide HCW) (by omega) hB1; have hzz1 := hB1.size; clear hb1) | (go_at_call 135; refine (zero_any _ 236 _ (unhide HHZ) (by omega)).mono ?_; rintro ee u1 ⟨rfl, hb1⟩; have hB1 : Below W1.heap.size W1 u1 := (by first | exact hB1.trans (hb1.mono hB1.size) | exact hB1.drew.trans (hb1.mono hB1.size)); have hcc1 := cells_on (unhide HCW) (by omega) hB1; have hzz1 := hB1.size; clear hb1))
    go_wp2
    go_meet
    exact ⟨congrArg Value.string (unhide HJ), hide hB1⟩
  case rest =>
    obtain ⟨rfl, HBC⟩ := hcut
    rename World => wc
    clear hB1 hcc1
    have c11 : wc.cell? ⟨w.heap.size, 11, none⟩ = some (.slice sa os.length sc) := by
      rw [(unhide HBC).cell (p := ⟨w.heap.size, 11, none⟩) (by show w.heap.size < _; omega), unhide HCW 11]; rfl
    have HBW : Hid (Below w.heap.size w wc) := hide ((unhide HW1).trans ((unhide HBC).mono (by omega)))
    clear HBC HCW HHZ HJ HW1 haddZ
    go_wp2
    clear c11
    go_loopw [4, 48] (fun s4 i wr => ∃ k : Nat, k ≤ os.length ∧ i = .int .i64 k ∧ s4 = .string ⟨(H ++ opts8 (os.take k)).toArray⟩ ∧ Hid (bad (os.take k) = false) ∧ Hid (Below w.heap.size w wr)) (fun _ i _ => os.length - (intOf i).toNat)
    case atStart => exact ⟨0, Nat.zero_le _, rfl, by simp [opts8], hide rfl, HBW⟩
    case round =>
      obtain ⟨k, hk, rfl, rfl, HBD, HW⟩ := hrel
      rename World => wr
      have hkl := opts8_le os k
      obtain ⟨X, hX⟩ : ∃ X, H ++ opts8 (os.take k) = X := ⟨_, rfl⟩
      have hXl : X.length ≤ 4195776 := by rw [← hX, List.length_append]; omega
      by_cases hlt : k < os.length
      · obtain ⟨ad, rfl, c0, c1⟩ := (unhide HA).below (unhide HW) (Nat.le_refl _) k hlt
        obtain ⟨oc, od, hcd⟩ : ∃ x y, os[k] = (x, y) := ⟨_, _, rfl⟩
        rw [hcd] at c0 c1
        simp only at c0 c1
        have hd : od.length ≤ 2097152 := by have := heavy_one os k hlt; rw [hcd] at this; simp only at this; omega
        have hbadk := bad_take hlt (unhide HBD)
        have hbat := @bad_at os k hlt
        rw [hcd] at hbadk hbat
        have HT := hide (opts8_take os k hlt)
        rw [hcd] at HT
        rw [hX]
        have HX := hide hX
        have hc8 := oc.toNat_lt
        clear hcd hX
        by_cases hb : badC oc = true
        · have hbd := hbat hb
          have HE1 : Hid (dhE true xid 0 yo ne [a, b, c, d, e, f] os = 2) := hide (by rw [dhE, if_pos hbd])
          have HE2 : Hid (dhS true xid 0 yo ne [a, b, c, d, e, f] os = ⟨#[]⟩) := hide (by rw [dhS, if_pos hbd])
          have hbb : oc.toNat = 0 ∨ oc.toNat = 52 ∨ oc.toNat = 255 := by simpa [badC, or_assoc] using hb
          clear hb hbat hbadk hbd
          rcases hbb with e0 | e0 | e0
          all_goals
            rw [e0] at c0
            clear e0
            go_wp2
            go_ret2
            exact ⟨by rw [unhide HE1, unhide HE2]; rfl, (unhide HW).alloc (unhide HW).size _⟩
        · have HB2 := hide (hbadk (by simpa using hb))
          have hbb : ¬ oc.toNat = 0 ∧ ¬ oc.toNat = 52 ∧ ¬ oc.toNat = 255 := by simpa [badC, and_assoc] using hb
          obtain ⟨g0, g1, g2⟩ := hbb
          have q0 : (((oc.toNat : Nat) : Int) == 0) = false := by simp; omega
          have q1 : (((oc.toNat : Nat) : Int) == 52) = false := by simp; omega
          have q2 : (((oc.toNat : Nat) : Int) == 255) = false := by simp; omega
          clear hb hbat hbadk g0 g1 g2
          obtain ⟨Wi, hWi⟩ : ∃ Wi, Wi = wr.alloc (.cells #[.int .u8 oc.toNat, .string ⟨od.toArray⟩] 151) := ⟨_, rfl⟩
          have hoc : ∀ wi, Below (wr.heap.size + 1) Wi wi → wi.cell? ⟨wr.heap.size, 0, none⟩ = some (.int .u8 oc.toNat) := fun wi hbi => by
            rw [hbi.cell (p := ⟨wr.heap.size, 0, none⟩) (by show wr.heap.size < _; omega), hWi, cell_of_row _ wr.heap.size 0 _ _ (0, 0) (heap_alloc_new wr _)]; rfl
          have HOC := hide hoc
          have HWI : Hid (Below w.heap.size w Wi ∧ Wi.heap.size = wr.heap.size + 1) := hide (by rw [hWi]; exact ⟨(unhide HW).alloc (unhide HW).size _, by simp⟩)
          have HWW := hide hWi
          clear hoc hWi
          go_wp2
          rw [← unhide HWW]
          clear HWW c0 c1 q0 q1 q2
          go_loopg [4, 7] od.length (fun g s4 s7 wi => ∃ m done : List UInt8, m.length = g ∧ g ≤ od.length ∧ s7 = .string ⟨m.toArray⟩ ∧ s4 = .string ⟨(X ++ done).toArray⟩ ∧ Hid (done ++ opt8 oc m = opt8 oc od) ∧ Hid (done.length ≤ 2 * (od.length - g)) ∧ Hid (Below (wr.heap.size + 1) Wi wi))
          case atStart => exact ⟨od, [], rfl, Nat.le_refl _, rfl, by simp, hide rfl, hide (by simp), hide (Below.refl _ _)⟩
          case round =>
            obtain ⟨m, done, hm, hg, rfl, rfl, H2, H3, H4⟩ := hrel
            rename World => wi
            have o0 := unhide HOC _ (unhide H4)
            have hgl := unhide H3
            obtain ⟨s, hS⟩ : ∃ s : ByteArray, s = ⟨m.toArray⟩ := ⟨_, rfl⟩
            have hz' : s.size = m.length := by rw [hS]; exact str_size m
            obtain ⟨t, hT⟩ : ∃ t : ByteArray, t = ⟨(X ++ done).toArray⟩ := ⟨_, rfl⟩
            have ht' : t.size ≤ 8390080 := by rw [hT, str_size, List.length_append]; omega
            by_cases hlt2 : 255 < m.length
            · have hgt : (255 : Int) < (s.size : Int) := by omega
              have hs1 : s.size ≤ 9223372036854775807 := by omega
              have hez : (s.extract 0 255).size = 255 := by rw [ByteArray.size_extract]; omega
              have hcv1 := conv_two wi oc.toNat 255 (by omega) (by omega)
              have hcv2 := conv_drew wi oc.toNat 255 (by omega) (by omega)
              have had1 := fun u => run_string_add_sum (P := Tryz.prog) u ⟨#[by8 (oc.toNat : Int), by8 255]⟩ (s.extract 0 255) (by show 2 + _ ≤ _; omega)
              have had2 := fun u => run_string_add_sum (P := Tryz.prog) u t (⟨#[by8 (oc.toNat : Int), by8 255]⟩ ++ s.extract 0 255) (by rw [ByteArray.size_append]; show _ + (2 + _) ≤ _; omega)
              have HD : Hid (s.extract 255 s.size = ⟨(m.drop 255).toArray⟩) := hide (by rw [hS]; exact str_drop m 255)
              have HE : Hid (t ++ (⟨#[by8 (oc.toNat : Int), by8 255]⟩ ++ s.extract 0 255) = ⟨(X ++ (done ++ (oc :: 255 :: m.take 255))).toArray⟩) := hide (by
                rw [hT, hS, str_take, by8_nat]
                apply ByteArray.ext
                apply Array.ext'
                simp [ByteArray.data_append]
                decide)
              have HG := hide hm
              have HLT := hide hlt2
              rw [← hS, ← hT]
              clear hS hT hz' ht' hm hgl hlt2 hez
              go_wp2
              go_region
              all_goals go_wp2
              all_goals go_roundg (gk - 255)
              all_goals first
                | (have := unhide HG; have := unhide HLT; omega)
                | (refine ⟨m.drop 255, done ++ (oc :: 255 :: m.take 255), by have := unhide HG; rw [List.length_drop]; omega, by omega, congrArg Value.string (unhide HD), congrArg Value.string (unhide HE), hide ?_, hide ?_, hide (by first | exact ((unhide H4).alloc (by have q := (unhide H4).size; rw [(unhide HWI).2] at q; exact q) _).drew | exact (unhide H4).drew.alloc (by have q := (unhide H4).size; rw [(unhide HWI).2] at q; exact q) _)⟩
                   · rw [← unhide H2, opt8_long oc m (unhide HLT)]; simp
                   · have := unhide H3
                     have := unhide HG
                     have := unhide HLT
                     rw [List.length_append, List.length_cons, List.length_cons, List.length_take]
                     omega)
            · have hgt : ¬ (255 : Int) < (s.size : Int) := by omega
              have hqs : IntKind.u8.wrap (s.size : Int) = (s.size : Int) := by rw [IntKind.wrap_u8]; omega
              have hcv1 := conv_two wi oc.toNat s.size (by omega) (by omega)
              have had1 := fun u => run_string_add_sum (P := Tryz.prog) u ⟨#[by8 (oc.toNat : Int), by8 (s.size : Int)]⟩ s (by show 2 + _ ≤ _; omega)
              have had2 := fun u => run_string_add_sum (P := Tryz.prog) u t (⟨#[by8 (oc.toNat : Int), by8 (s.size : Int)]⟩ ++ s) (by rw [ByteArray.size_append]; show _ + (2 + _) ≤ _; omega)
              have HE : Hid (t ++ (⟨#[by8 (oc.toNat : Int), by8 (s.size : Int)]⟩ ++ s) = ⟨(H ++ opts8 (os.take (k + 1))).toArray⟩) := hide (by
                rw [unhide HT, ← List.append_assoc, unhide HX, ← unhide H2, opt8_short oc m hlt2, hz', hT, hS, by8_nat, by8_len]
                apply ByteArray.ext
                apply Array.ext'
                simp [ByteArray.data_append])
              rw [← hS, ← hT]
              clear hS hT hz' ht' hm hgl hlt2
              go_wp2
              go_roundw
              case rel => exact ⟨k + 1, by omega, by go_num, congrArg Value.string (unhide HE), HB2, hide ((unhide HWI).1.trans (((unhide H4).alloc (by have q := (unhide H4).size; rw [(unhide HWI).2] at q; exact q) _).mono (by have := (unhide HW).size; omega)))⟩
              case measure => simp [intOf]; omega
      · have e0 : k = os.length := by omega
        subst e0
        rw [List.take_length] at hX hkl
        have hnb := unhide HBD
        rw [List.take_length] at hnb ⊢
        have hX255 : X ++ [255] = allL true xid 0 yo ne [a, b, c, d, e, f] os := by rw [← hX]; exact unhide HALL
        obtain ⟨t, hT⟩ : ∃ t : ByteArray, t = ⟨X.toArray⟩ := ⟨_, rfl⟩
        have ht' : t.size = X.length := by rw [hT]; exact str_size X
        have had1 := fun u => run_string_add_sum (P := Tryz.prog) u t ⟨#[255]⟩ (by show _ + 1 ≤ _; omega)
        obtain ⟨z, hZ⟩ : ∃ z : ByteArray, z = ⟨(fullL (allL true xid 0 yo ne [a, b, c, d, e, f] os)).toArray⟩ := ⟨_, rfl⟩
        have HZC : Hid (∀ u, Calls Tryz.prog 135 #[.string (t ++ ⟨#[255]⟩), .int .i64 300] u fun ee w' => ee = .returned (.string z) ∧ Below u.heap.size u w') := hide (fun u => zero_end X _ t z hT hX255 hZ (by omega) u)
        have hzl : (1472 < z.size) = (1472 < (allL true xid 0 yo ne [a, b, c, d, e, f] os).length) := by rw [hZ, str_size, fullL_length]
        have HZ := hide hZ
        rw [hX, ← hT]
        by_cases hbig : 1472 < (allL true xid 0 yo ne [a, b, c, d, e, f] os).length
        · have hzz2 : 1472 < z.size := by rw [hzl]; exact hbig
          have hgt : (1472 : Int) < (z.size : Int) := by omega
          have HE1 : Hid (dhE true xid 0 yo ne [a, b, c, d, e, f] os = 7) := hide (by rw [dhE, hnb, if_neg (by decide), if_pos hbig])
          have HE2 : Hid (dhS true xid 0 yo ne [a, b, c, d, e, f] os = ⟨#[]⟩) := hide (by rw [dhS, hnb, if_neg (by decide), if_pos hbig])
          clear hX hT hZ hzl hbig hX255 hzz2 ht' hnb
          go_wp2_with fail
          refine (unhide HZC _).mono ?_
          rintro ee w9 ⟨rfl, hb9⟩
          have HB9 := hide hb9
          clear hb9
          go_wp2
          go_ret2
          exact ⟨by rw [unhide HE1, unhide HE2]; rfl, (unhide HW).trans ((unhide HB9).mono (unhide HW).size)⟩
        · have hzz2 : ¬ 1472 < z.size := by rw [hzl]; exact hbig
          have hgt : ¬ (1472 : Int) < (z.size : Int) := by omega
          have HE1 : Hid (dhE true xid 0 yo ne [a, b, c, d, e, f] os = 0) := hide (by rw [dhE, hnb, if_neg (by decide), if_neg hbig])
          have HE2 : Hid (dhS true xid 0 yo ne [a, b, c, d, e, f] os = z) := hide (by rw [dhS, hnb, if_neg (by decide), if_neg hbig, hZ])
          clear hX hT hZ hzl hbig hX255 hzz2 ht' hnb
          go_wp2_with fail
          refine (unhide HZC _).mono ?_
          rintro ee w9 ⟨rfl, hb9⟩
          have HB9 := hide hb9
          clear hb9
          go_wp2
          go_ret2
          exact ⟨by rw [unhide HE1, unhide HE2]; rfl, (unhide HW).trans ((unhide HB9).mono (unhide HW).size)⟩

set_option maxHeartbeats 16000000 in
set_option maxRecDepth 10000 in
theorem ref_rn (xid cl yo ne : Int) (a b c d e f : UInt8) (sa : Option Addr) (sc : Nat) (os : Opts) (w : World) (hx : 0 ≤ xid ∧ xid ≤ 4294967295) (hc : 0 ≤ cl ∧ cl ≤ 4294967295) (hy : 0 ≤ yo ∧ yo ≤ 4294967295) (hn : 0 ≤ ne ∧ ne ≤ 4294967295) (hA : At w sa os) (hl : heavy os ≤ 2097152) (hz : ¬ cl = 0) :
    Calls Tryz.prog 94 #[.agg #[.bool true, .int .u32 xid, .int .u32 cl, .int .u32 yo, .int .u32 ne, .int .u8 a.toNat, .int .u8 b.toNat, .int .u8 c.toNat, .int .u8 d.toNat, .int .u8 e.toNat, .int .u8 f.toNat, .slice sa os.length sc]] w fun ee w' =>
      ee = .returned (.tuple #[.string (dhS true xid cl yo ne [a, b, c, d, e, f] os), .int .i64 (dhE true xid cl yo ne [a, b, c, d, e, f] os)]) ∧ Below w.heap.size w w' := by
  have hlen : os.length ≤ heavy os := by unfold heavy; omega
  have hh8 := opts8_heavy os
  obtain ⟨hx0, hx1⟩ := hx
  obtain ⟨hy0, hy1⟩ := hy
  obtain ⟨hn0, hn1⟩ := hn
  obtain ⟨hc0, hc1⟩ := hc
  have hzz : (cl == 0) = false := by simpa using hz
  have hqx : IntKind.i64.wrap xid = xid := wrap_i64 _ (by omega) (by omega)
  have HBX := hide (big_any xid 4 (w.alloc (.cells #[.bool true, .int .u32 xid, .int .u32 cl, .int .u32 yo, .int .u32 ne, .int .u8 a.toNat, .int .u8 b.toNat, .int .u8 c.toNat, .int .u8 d.toNat, .int .u8 e.toNat, .int .u8 f.toNat, .slice sa os.length sc] 127)) hx0 (by omega) (by omega))
  obtain ⟨H, hH⟩ : ∃ H, H = headL 2 0 xid cl yo ne [a, b, c, d, e, f] := ⟨_, rfl⟩
  have hHl : H.length = 240 := by rw [hH]; exact headL_length _ _ _ _ _ _ _ rfl
  have HJ : Hid (zeroS ((⟨#[2, 1, 6, 0]⟩ : ByteArray) ++ (⟨#[by8 (xid / 256 / 256 / 256), by8 (xid / 256 / 256), by8 (xid / 256), by8 xid]⟩ ++ ⟨#[0, 0]⟩) ++ (⟨#[0, 0]⟩ : ByteArray) ++ ⟨#[by8 (cl / 256 / 256 / 256), by8 (cl / 256 / 256), by8 (cl / 256), by8 cl]⟩ ++ ⟨#[by8 (yo / 256 / 256 / 256), by8 (yo / 256 / 256), by8 (yo / 256), by8 yo]⟩ ++ ⟨#[by8 (ne / 256 / 256 / 256), by8 (ne / 256 / 256), by8 (ne / 256), by8 ne]⟩ ++ ⟨#[0, 0, 0, 0]⟩ ++ ⟨#[a, b, c, d, e, f]⟩) 236 ++ ⟨#[99, 130, 83, 99]⟩ = ⟨H.toArray⟩) := hide (by rw [hH]; exact head_join 2 0 xid cl yo ne a b c d e f _ _ _ rfl rfl (by first | rfl | decide))
  have HALL : Hid (H ++ opts8 os ++ [255] = allL true xid cl yo ne [a, b, c, d, e, f] os) := hide (by rw [hH, allL, show flI cl = 0 from if_neg hz]; rfl)
  have hzs : (zeroS ((⟨#[2, 1, 6, 0]⟩ : ByteArray) ++ (⟨#[by8 (xid / 256 / 256 / 256), by8 (xid / 256 / 256), by8 (xid / 256), by8 xid]⟩ ++ ⟨#[0, 0]⟩) ++ (⟨#[0, 0]⟩ : ByteArray) ++ ⟨#[by8 (cl / 256 / 256 / 256), by8 (cl / 256 / 256), by8 (cl / 256), by8 cl]⟩ ++ ⟨#[by8 (yo / 256 / 256 / 256), by8 (yo / 256 / 256), by8 (yo / 256), by8 yo]⟩ ++ ⟨#[by8 (ne / 256 / 256 / 256), by8 (ne / 256 / 256), by8 (ne / 256), by8 ne]⟩ ++ ⟨#[0, 0, 0, 0]⟩ ++ ⟨#[a, b, c, d, e, f]⟩) 236).size + 4 = 240 := by
    have q := congrArg ByteArray.size (unhide HJ)
    rw [ByteArray.size_append, str_size] at q
    have q2 := q.trans hHl
    exact q2
  have haddZ := fun u => run_string_add_sum (P := Tryz.prog) u (zeroS ((⟨#[2, 1, 6, 0]⟩ : ByteArray) ++ (⟨#[by8 (xid / 256 / 256 / 256), by8 (xid / 256 / 256), by8 (xid / 256), by8 xid]⟩ ++ ⟨#[0, 0]⟩) ++ (⟨#[0, 0]⟩ : ByteArray) ++ ⟨#[by8 (cl / 256 / 256 / 256), by8 (cl / 256 / 256), by8 (cl / 256), by8 cl]⟩ ++ ⟨#[by8 (yo / 256 / 256 / 256), by8 (yo / 256 / 256), by8 (yo / 256), by8 yo]⟩ ++ ⟨#[by8 (ne / 256 / 256 / 256), by8 (ne / 256 / 256), by8 (ne / 256), by8 ne]⟩ ++ ⟨#[0, 0, 0, 0]⟩ ++ ⟨#[a, b, c, d, e, f]⟩) 236) ⟨#[99, 130, 83, 99]⟩ (by show _ + 4 ≤ _; omega)
  have HA := hide hA
  clear hA hH hzs
  go_enter Tryz.func94, Tryz.ntmps94
  go_wp2_with fail
  refine (unhide HBX).mono ?_
  rintro ee w1 ⟨rfl, hb1⟩
  have hcW := six_cells' hb1
  have hzW : w.heap.size + 1 ≤ w1.heap.size := by have := hb1.size; simpa using this
  have HW1 : Hid (Below w.heap.size w w1) := hide (((Below.refl _ _).alloc (Nat.le_refl _) _).trans (hb1.mono (by simp)))
  clear hb1 HBX
  simp only [bigL, List.nil_append, List.cons_append]
  obtain ⟨W1, hW1⟩ : ∃ W1, W1 = w1 := ⟨_, rfl⟩
  rw [← hW1] at hcW hzW HW1
  subst hW1
  have HCW := hide hcW
  have HHZ := hide (show ((⟨#[2, 1, 6, 0]⟩ : ByteArray) ++ (⟨#[by8 (xid / 256 / 256 / 256), by8 (xid / 256 / 256), by8 (xid / 256), by8 xid]⟩ ++ ⟨#[0, 0]⟩) ++ (⟨#[0, 0]⟩ : ByteArray) ++ ⟨#[by8 (cl / 256 / 256 / 256), by8 (cl / 256 / 256), by8 (cl / 256), by8 cl]⟩ ++ ⟨#[by8 (yo / 256 / 256 / 256), by8 (yo / 256 / 256), by8 (yo / 256), by8 yo]⟩ ++ ⟨#[by8 (ne / 256 / 256 / 256), by8 (ne / 256 / 256), by8 (ne / 256), by8 ne]⟩ ++ ⟨#[0, 0, 0, 0]⟩ ++ ⟨#[a, b, c, d, e, f]⟩).size ≤ 1099511627776 by show 34 ≤ _; omega)
  have hB1 : Below W1.heap.size W1 W1 := Below.refl _ _
  have hcc1 := hcW
  clear hcW
  go_wp2
  go_cut [4] (fun s4 wc => s4 = .string ⟨H.toArray⟩ ∧ Hid (Below W1.heap.size W1 wc))
  case first =>
    go_region_held3 (fun u => u.cell? ⟨w.heap.size, 2, none⟩ = some (.int .u32 cl) ∧ u.cell? ⟨w.heap.size, 3, none⟩ = some (.int .u32 yo) ∧ u.cell? ⟨w.heap.size, 4, none⟩ = some (.int .u32 ne) ∧ u.cell? ⟨w.heap.size, 5, none⟩ = some (.int .u8 a.toNat) ∧ u.cell? ⟨w.heap.size, 6, none⟩ = some (.int .u8 b.toNat) ∧ u.cell? ⟨w.heap.size, 7, none⟩ = some (.int .u8 c.toNat) ∧ u.cell? ⟨w.heap.size, 8, none⟩ = some (.int .u8 d.toNat) ∧ u.cell? ⟨w.heap.size, 9, none⟩ = some (.int .u8 e.toNat) ∧ u.cell? ⟨w.heap.size, 10, none⟩ = some (.int .u8 f.toNat)) (go_keep)
      (first | (go_at_call 91; refine (ip_zero _).mono ?_; rintro ee u1 ⟨rfl, hb1⟩; have hB1 : Below W1.heap.size W1 u1 := (by first | exact hB1.trans (hb1.mono hB1.size) | exact hB1.drew.trans (hb1.mono hB1.size)); have hcc1 := cells_on (unhide HCW) (by omega) hB1; have hzz1 := hB1.size; clear hb1) | (go_at_call 91; refine (ip_lit _ _ (by omega) (by omega)).mono ?_; rintro ee u1 ⟨rfl, hb1⟩; have hB1 : Below W1.heap.size W1 u1 := (by first | exact hB1.trans (hb1.mono hB1.size) | exact hB1.drew.trans (hb1.mono hB1.size)); have hcc1 := cells_on (unhide HCW) (by omega) hB1; have hzz1 := hB1.size; clear hb1) | (go_at_call 132; refine (mac_any _ _ _ _ _ _ _).mono ?_; rintro ee u1 ⟨rfl, hb1⟩; have hB1 : Below W1.heap.size W1 u1 := (by first | exact hB1.trans (hb1.mono hB1.size) | exact hB1.drew.trans (hb1.mono hB1.size)); have hcc1 := cells_on (unhide HCW) (by omega) hB1; have hzz1 := hB1.size; clear hb1) | (go_at_call 135; refine (zero_any _ 236 _ (unhide HHZ) (by omega)).mono ?_; rintro ee u1 ⟨rfl, hb1⟩; have hB1 : Below W1.heap.size W1 u1 := (by first | exact hB1.trans (hb1.mono hB1.size) | exact hB1.drew.trans (hb1.mono hB1.size)); have hcc1 := cells_on (unhide HCW) (by omega) hB1; have hzz1 := hB1.size; clear hb1))
    go_wp2
    go_meet
    exact ⟨congrArg Value.string (unhide HJ), hide hB1⟩
  case rest =>
    obtain ⟨rfl, HBC⟩ := hcut
    rename World => wc
    clear hB1 hcc1
    have c11 : wc.cell? ⟨w.heap.size, 11, none⟩ = some (.slice sa os.length sc) := by
      rw [(unhide HBC).cell (p := ⟨w.heap.size, 11, none⟩) (by show w.heap.size < _; omega), unhide HCW 11]; rfl
    have HBW : Hid (Below w.heap.size w wc) := hide ((unhide HW1).trans ((unhide HBC).mono (by omega)))
    clear HBC HCW HHZ HJ HW1 haddZ
    go_wp2
    clear c11
    go_loopw [4, 48] (fun s4 i wr => ∃ k : Nat, k ≤ os.length ∧ i = .int .i64 k ∧ s4 = .string ⟨(H ++ opts8 (os.take k)).toArray⟩ ∧ Hid (bad (os.take k) = false) ∧ Hid (Below w.heap.size w wr)) (fun _ i _ => os.length - (intOf i).toNat)
    case atStart => exact ⟨0, Nat.zero_le _, rfl, by simp [opts8], hide rfl, HBW⟩
    case round =>
      obtain ⟨k, hk, rfl, rfl, HBD, HW⟩ := hrel
      rename World => wr
      have hkl := opts8_le os k
      obtain ⟨X, hX⟩ : ∃ X, H ++ opts8 (os.take k) = X := ⟨_, rfl⟩
      have hXl : X.length ≤ 4195776 := by rw [← hX, List.length_append]; omega
      by_cases hlt : k < os.length
      · obtain ⟨ad, rfl, c0, c1⟩ := (unhide HA).below (unhide HW) (Nat.le_refl _) k hlt
        obtain ⟨oc, od, hcd⟩ : ∃ x y, os[k] = (x, y) := ⟨_, _, rfl⟩
        rw [hcd] at c0 c1
        simp only at c0 c1
        have hd : od.length ≤ 2097152 := by have := heavy_one os k hlt; rw [hcd] at this; simp only at this; omega
        have hbadk := bad_take hlt (unhide HBD)
        have hbat := @bad_at os k hlt
        rw [hcd] at hbadk hbat
        have HT := hide (opts8_take os k hlt)
        rw [hcd] at HT
        rw [hX]
        have HX := hide hX
        have hc8 := oc.toNat_lt
        clear hcd hX
        by_cases hb : badC oc = true
        · have hbd := hbat hb
          have HE1 : Hid (dhE true xid cl yo ne [a, b, c, d, e, f] os = 2) := hide (by rw [dhE, if_pos hbd])
          have HE2 : Hid (dhS true xid cl yo ne [a, b, c, d, e, f] os = ⟨#[]⟩) := hide (by rw [dhS, if_pos hbd])
          have hbb : oc.toNat = 0 ∨ oc.toNat = 52 ∨ oc.toNat = 255 := by simpa [badC, or_assoc] using hb
          clear hb hbat hbadk hbd
          rcases hbb with e0 | e0 | e0
          all_goals
            rw [e0] at c0
            clear e0
            go_wp2
            go_ret2
            exact ⟨by rw [unhide HE1, unhide HE2]; rfl, (unhide HW).alloc (unhide HW).size _⟩
        · have HB2 := hide (hbadk (by simpa using hb))
          have hbb : ¬ oc.toNat = 0 ∧ ¬ oc.toNat = 52 ∧ ¬ oc.toNat = 255 := by simpa [badC, and_assoc] using hb
          obtain ⟨g0, g1, g2⟩ := hbb
          have q0 : (((oc.toNat : Nat) : Int) == 0) = false := by simp; omega
          have q1 : (((oc.toNat : Nat) : Int) == 52) = false := by simp; omega
          have q2 : (((oc.toNat : Nat) : Int) == 255) = false := by simp; omega
          clear hb hbat hbadk g0 g1 g2
          obtain ⟨Wi, hWi⟩ : ∃ Wi, Wi = wr.alloc (.cells #[.int .u8 oc.toNat, .string ⟨od.toArray⟩] 151) := ⟨_, rfl⟩
          have hoc : ∀ wi, Below (wr.heap.size + 1) Wi wi → wi.cell? ⟨wr.heap.size, 0, none⟩ = some (.int .u8 oc.toNat) := fun wi hbi => by
            rw [hbi.cell (p := ⟨wr.heap.size, 0, none⟩) (by show wr.heap.size < _; omega), hWi, cell_of_row _ wr.heap.size 0 _ _ (0, 0) (heap_alloc_new wr _)]; rfl
          have HOC := hide hoc
          have HWI : Hid (Below w.heap.size w Wi ∧ Wi.heap.size = wr.heap.size + 1) := hide (by rw [hWi]; exact ⟨(unhide HW).alloc (unhide HW).size _, by simp⟩)
          have HWW := hide hWi
          clear hoc hWi
          go_wp2
          rw [← unhide HWW]
          clear HWW c0 c1 q0 q1 q2
          go_loopg [4, 7] od.length (fun g s4 s7 wi => ∃ m done : List UInt8, m.length = g ∧ g ≤ od.length ∧ s7 = .string ⟨m.toArray⟩ ∧ s4 = .string ⟨(X ++ done).toArray⟩ ∧ Hid (done ++ opt8 oc m = opt8 oc od) ∧ Hid (done.length ≤ 2 * (od.length - g)) ∧ Hid (Below (wr.heap.size + 1) Wi wi))
          case atStart => exact ⟨od, [], rfl, Nat.le_refl _, rfl, by simp, hide rfl, hide (by simp), hide (Below.refl _ _)⟩
          case round =>
            obtain ⟨m, done, hm, hg, rfl, rfl, H2, H3, H4⟩ := hrel
            rename World => wi
            have o0 := unhide HOC _ (unhide H4)
            have hgl := unhide H3
            obtain ⟨s, hS⟩ : ∃ s : ByteArray, s = ⟨m.toArray⟩ := ⟨_, rfl⟩
            have hz' : s.size = m.length := by rw [hS]; exact str_size m
            obtain ⟨t, hT⟩ : ∃ t : ByteArray, t = ⟨(X ++ done).toArray⟩ := ⟨_, rfl⟩
            have ht' : t.size ≤ 8390080 := by rw [hT, str_size, List.length_append]; omega
            by_cases hlt2 : 255 < m.length
            · have hgt : (255 : Int) < (s.size : Int) := by omega
              have hs1 : s.size ≤ 9223372036854775807 := by omega
              have hez : (s.extract 0 255).size = 255 := by rw [ByteArray.size_extract]; omega
              have hcv1 := conv_two wi oc.toNat 255 (by omega) (by omega)
              have hcv2 := conv_drew wi oc.toNat 255 (by omega) (by omega)
              have had1 := fun u => run_string_add_sum (P := Tryz.prog) u ⟨#[by8 (oc.toNat : Int), by8 255]⟩ (s.extract 0 255) (by show 2 + _ ≤ _; omega)
              have had2 := fun u => run_string_add_sum (P := Tryz.prog) u t (⟨#[by8 (oc.toNat : Int), by8 255]⟩ ++ s.extract 0 255) (by rw [ByteArray.size_append]; show _ + (2 + _) ≤ _; omega)
              have HD : Hid (s.extract 255 s.size = ⟨(m.drop 255).toArray⟩) := hide (by rw [hS]; exact str_drop m 255)
              have HE : Hid (t ++ (⟨#[by8 (oc.toNat : Int), by8 255]⟩ ++ s.extract 0 255) = ⟨(X ++ (done ++ (oc :: 255 :: m.take 255))).toArray⟩) := hide (by
                rw [hT, hS, str_take, by8_nat]
                apply ByteArray.ext
                apply Array.ext'
                simp [ByteArray.data_append]
                decide)
              have HG := hide hm
              have HLT := hide hlt2
              rw [← hS, ← hT]
              clear hS hT hz' ht' hm hgl hlt2 hez
              go_wp2
              go_region
              all_goals go_wp2
              all_goals go_roundg (gk - 255)
              all_goals first
                | (have := unhide HG; have := unhide HLT; omega)
                | (refine ⟨m.drop 255, done ++ (oc :: 255 :: m.take 255), by have := unhide HG; rw [List.length_drop]; omega, by omega, congrArg Value.string (unhide HD), congrArg Value.string (unhide HE), hide ?_, hide ?_, hide (by first | exact ((unhide H4).alloc (by have q := (unhide H4).size; rw [(unhide HWI).2] at q; exact q) _).drew | exact (unhide H4).drew.alloc (by have q := (unhide H4).size; rw [(unhide HWI).2] at q; exact q) _)⟩
                   · rw [← unhide H2, opt8_long oc m (unhide HLT)]; simp
                   · have := unhide H3
                     have := unhide HG
                     have := unhide HLT
                     rw [List.length_append, List.length_cons, List.length_cons, List.length_take]
                     omega)
            · have hgt : ¬ (255 : Int) < (s.size : Int) := by omega
              have hqs : IntKind.u8.wrap (s.size : Int) = (s.size : Int) := by rw [IntKind.wrap_u8]; omega
              have hcv1 := conv_two wi oc.toNat s.size (by omega) (by omega)
              have had1 := fun u => run_string_add_sum (P := Tryz.prog) u ⟨#[by8 (oc.toNat : Int), by8 (s.size : Int)]⟩ s (by show 2 + _ ≤ _; omega)
              have had2 := fun u => run_string_add_sum (P := Tryz.prog) u t (⟨#[by8 (oc.toNat : Int), by8 (s.size : Int)]⟩ ++ s) (by rw [ByteArray.size_append]; show _ + (2 + _) ≤ _; omega)
              have HE : Hid (t ++ (⟨#[by8 (oc.toNat : Int), by8 (s.size : Int)]⟩ ++ s) = ⟨(H ++ opts8 (os.take (k + 1))).toArray⟩) := hide (by
                rw [unhide HT, ← List.append_assoc, unhide HX, ← unhide H2, opt8_short oc m hlt2, hz', hT, hS, by8_nat, by8_len]
                apply ByteArray.ext
                apply Array.ext'
                simp [ByteArray.data_append])
              rw [← hS, ← hT]
              clear hS hT hz' ht' hm hgl hlt2
              go_wp2
              go_roundw
              case rel => exact ⟨k + 1, by omega, by go_num, congrArg Value.string (unhide HE), HB2, hide ((unhide HWI).1.trans (((unhide H4).alloc (by have q := (unhide H4).size; rw [(unhide HWI).2] at q; exact q) _).mono (by have := (unhide HW).size; omega)))⟩
              case measure => simp [intOf]; omega
      · have e0 : k = os.length := by omega
        subst e0
        rw [List.take_length] at hX hkl
        have hnb := unhide HBD
        rw [List.take_length] at hnb ⊢
        have hX255 : X ++ [255] = allL true xid cl yo ne [a, b, c, d, e, f] os := by rw [← hX]; exact unhide HALL
        obtain ⟨t, hT⟩ : ∃ t : ByteArray, t = ⟨X.toArray⟩ := ⟨_, rfl⟩
        have ht' : t.size = X.length := by rw [hT]; exact str_size X
        have had1 := fun u => run_string_add_sum (P := Tryz.prog) u t ⟨#[255]⟩ (by show _ + 1 ≤ _; omega)
        obtain ⟨z, hZ⟩ : ∃ z : ByteArray, z = ⟨(fullL (allL true xid cl yo ne [a, b, c, d, e, f] os)).toArray⟩ := ⟨_, rfl⟩
        have HZC : Hid (∀ u, Calls Tryz.prog 135 #[.string (t ++ ⟨#[255]⟩), .int .i64 300] u fun ee w' => ee = .returned (.string z) ∧ Below u.heap.size u w') := hide (fun u => zero_end X _ t z hT hX255 hZ (by omega) u)
        have hzl : (1472 < z.size) = (1472 < (allL true xid cl yo ne [a, b, c, d, e, f] os).length) := by rw [hZ, str_size, fullL_length]
        have HZ := hide hZ
        rw [hX, ← hT]
        by_cases hbig : 1472 < (allL true xid cl yo ne [a, b, c, d, e, f] os).length
        · have hzz2 : 1472 < z.size := by rw [hzl]; exact hbig
          have hgt : (1472 : Int) < (z.size : Int) := by omega
          have HE1 : Hid (dhE true xid cl yo ne [a, b, c, d, e, f] os = 7) := hide (by rw [dhE, hnb, if_neg (by decide), if_pos hbig])
          have HE2 : Hid (dhS true xid cl yo ne [a, b, c, d, e, f] os = ⟨#[]⟩) := hide (by rw [dhS, hnb, if_neg (by decide), if_pos hbig])
          clear hX hT hZ hzl hbig hX255 hzz2 ht' hnb
          go_wp2_with fail
          refine (unhide HZC _).mono ?_
          rintro ee w9 ⟨rfl, hb9⟩
          have HB9 := hide hb9
          clear hb9
          go_wp2
          go_ret2
          exact ⟨by rw [unhide HE1, unhide HE2]; rfl, (unhide HW).trans ((unhide HB9).mono (unhide HW).size)⟩
        · have hzz2 : ¬ 1472 < z.size := by rw [hzl]; exact hbig
          have hgt : ¬ (1472 : Int) < (z.size : Int) := by omega
          have HE1 : Hid (dhE true xid cl yo ne [a, b, c, d, e, f] os = 0) := hide (by rw [dhE, hnb, if_neg (by decide), if_neg hbig])
          have HE2 : Hid (dhS true xid cl yo ne [a, b, c, d, e, f] os = z) := hide (by rw [dhS, hnb, if_neg (by decide), if_neg hbig, hZ])
          clear hX hT hZ hzl hbig hX255 hzz2 ht' hnb
          go_wp2_with fail
          refine (unhide HZC _).mono ?_
          rintro ee w9 ⟨rfl, hb9⟩
          have HB9 := hide hb9
          clear hb9
          go_wp2
          go_ret2
          exact ⟨by rw [unhide HE1, unhide HE2]; rfl, (unhide HW).trans ((unhide HB9).mono (unhide HW).size)⟩

set_option maxHeartbeats 16000000 in
set_option maxRecDepth 10000 in
theorem ref_qz (xid yo ne : Int) (a b c d e f : UInt8) (sa : Option Addr) (sc : Nat) (os : Opts) (w : World) (hx : 0 ≤ xid ∧ xid ≤ 4294967295) (hy : 0 ≤ yo ∧ yo ≤ 4294967295) (hn : 0 ≤ ne ∧ ne ≤ 4294967295) (hA : At w sa os) (hl : heavy os ≤ 2097152) :
    Calls Tryz.prog 94 #[.agg #[.bool false, .int .u32 xid, .int .u32 0, .int .u32 yo, .int .u32 ne, .int .u8 a.toNat, .int .u8 b.toNat, .int .u8 c.toNat, .int .u8 d.toNat, .int .u8 e.toNat, .int .u8 f.toNat, .slice sa os.length sc]] w fun ee w' =>
      ee = .returned (.tuple #[.string (dhS false xid 0 yo ne [a, b, c, d, e, f] os), .int .i64 (dhE false xid 0 yo ne [a, b, c, d, e, f] os)]) ∧ Below w.heap.size w w' := by
  have hlen : os.length ≤ heavy os := by unfold heavy; omega
  have hh8 := opts8_heavy os
  obtain ⟨hx0, hx1⟩ := hx
  obtain ⟨hy0, hy1⟩ := hy
  obtain ⟨hn0, hn1⟩ := hn
  have hcl0 := True.intro
  have hcl1 := True.intro
  have hqx : IntKind.i64.wrap xid = xid := wrap_i64 _ (by omega) (by omega)
  have HBX := hide (big_any xid 4 (w.alloc (.cells #[.bool false, .int .u32 xid, .int .u32 0, .int .u32 yo, .int .u32 ne, .int .u8 a.toNat, .int .u8 b.toNat, .int .u8 c.toNat, .int .u8 d.toNat, .int .u8 e.toNat, .int .u8 f.toNat, .slice sa os.length sc] 127)) hx0 (by omega) (by omega))
  obtain ⟨H, hH⟩ : ∃ H, H = headL 1 32768 xid 0 yo ne [a, b, c, d, e, f] := ⟨_, rfl⟩
  have hHl : H.length = 240 := by rw [hH]; exact headL_length _ _ _ _ _ _ _ rfl
  have HJ : Hid (zeroS ((⟨#[1, 1, 6, 0]⟩ : ByteArray) ++ (⟨#[by8 (xid / 256 / 256 / 256), by8 (xid / 256 / 256), by8 (xid / 256), by8 xid]⟩ ++ ⟨#[0, 0]⟩) ++ (⟨#[128, 0]⟩ : ByteArray) ++ ⟨#[0, 0, 0, 0]⟩ ++ ⟨#[by8 (yo / 256 / 256 / 256), by8 (yo / 256 / 256), by8 (yo / 256), by8 yo]⟩ ++ ⟨#[by8 (ne / 256 / 256 / 256), by8 (ne / 256 / 256), by8 (ne / 256), by8 ne]⟩ ++ ⟨#[0, 0, 0, 0]⟩ ++ ⟨#[a, b, c, d, e, f]⟩) 236 ++ ⟨#[99, 130, 83, 99]⟩ = ⟨H.toArray⟩) := hide (by rw [hH]; exact head_join 1 32768 xid 0 yo ne a b c d e f _ _ _ rfl rfl (by first | rfl | decide))
  have HALL : Hid (H ++ opts8 os ++ [255] = allL false xid 0 yo ne [a, b, c, d, e, f] os) := hide (by rw [hH]; rfl)
  have hzs : (zeroS ((⟨#[1, 1, 6, 0]⟩ : ByteArray) ++ (⟨#[by8 (xid / 256 / 256 / 256), by8 (xid / 256 / 256), by8 (xid / 256), by8 xid]⟩ ++ ⟨#[0, 0]⟩) ++ (⟨#[128, 0]⟩ : ByteArray) ++ ⟨#[0, 0, 0, 0]⟩ ++ ⟨#[by8 (yo / 256 / 256 / 256), by8 (yo / 256 / 256), by8 (yo / 256), by8 yo]⟩ ++ ⟨#[by8 (ne / 256 / 256 / 256), by8 (ne / 256 / 256), by8 (ne / 256), by8 ne]⟩ ++ ⟨#[0, 0, 0, 0]⟩ ++ ⟨#[a, b, c, d, e, f]⟩) 236).size + 4 = 240 := by
    have q := congrArg ByteArray.size (unhide HJ)
    rw [ByteArray.size_append, str_size] at q
    have q2 := q.trans hHl
    exact q2
  have haddZ := fun u => run_string_add_sum (P := Tryz.prog) u (zeroS ((⟨#[1, 1, 6, 0]⟩ : ByteArray) ++ (⟨#[by8 (xid / 256 / 256 / 256), by8 (xid / 256 / 256), by8 (xid / 256), by8 xid]⟩ ++ ⟨#[0, 0]⟩) ++ (⟨#[128, 0]⟩ : ByteArray) ++ ⟨#[0, 0, 0, 0]⟩ ++ ⟨#[by8 (yo / 256 / 256 / 256), by8 (yo / 256 / 256), by8 (yo / 256), by8 yo]⟩ ++ ⟨#[by8 (ne / 256 / 256 / 256), by8 (ne / 256 / 256), by8 (ne / 256), by8 ne]⟩ ++ ⟨#[0, 0, 0, 0]⟩ ++ ⟨#[a, b, c, d, e, f]⟩) 236) ⟨#[99, 130, 83, 99]⟩ (by show _ + 4 ≤ _; omega)
  have HA := hide hA
  clear hA hH hzs
  go_enter Tryz.func94, Tryz.ntmps94
  go_wp2_with fail
  refine (unhide HBX).mono ?_
  rintro ee w1 ⟨rfl, hb1⟩
  have hcW := six_cells' hb1
  have hzW : w.heap.size + 1 ≤ w1.heap.size := by have := hb1.size; simpa using this
  have HW1 : Hid (Below w.heap.size w w1) := hide (((Below.refl _ _).alloc (Nat.le_refl _) _).trans (hb1.mono (by simp)))
  clear hb1 HBX
  simp only [bigL, List.nil_append, List.cons_append]
  obtain ⟨W1, hW1⟩ : ∃ W1, W1 = w1 := ⟨_, rfl⟩
  rw [← hW1] at hcW hzW HW1
  subst hW1
  have HCW := hide hcW
  have HHZ := hide (show ((⟨#[1, 1, 6, 0]⟩ : ByteArray) ++ (⟨#[by8 (xid / 256 / 256 / 256), by8 (xid / 256 / 256), by8 (xid / 256), by8 xid]⟩ ++ ⟨#[0, 0]⟩) ++ (⟨#[128, 0]⟩ : ByteArray) ++ ⟨#[0, 0, 0, 0]⟩ ++ ⟨#[by8 (yo / 256 / 256 / 256), by8 (yo / 256 / 256), by8 (yo / 256), by8 yo]⟩ ++ ⟨#[by8 (ne / 256 / 256 / 256), by8 (ne / 256 / 256), by8 (ne / 256), by8 ne]⟩ ++ ⟨#[0, 0, 0, 0]⟩ ++ ⟨#[a, b, c, d, e, f]⟩).size ≤ 1099511627776 by show 34 ≤ _; omega)
  have hB1 : Below W1.heap.size W1 W1 := Below.refl _ _
  have hcc1 := hcW
  clear hcW
  go_wp2
  go_cut [4] (fun s4 wc => s4 = .string ⟨H.toArray⟩ ∧ Hid (Below W1.heap.size W1 wc))
  case first =>
    go_region_held3 (fun u => u.cell? ⟨w.heap.size, 2, none⟩ = some (.int .u32 0) ∧ u.cell? ⟨w.heap.size, 3, none⟩ = some (.int .u32 yo) ∧ u.cell? ⟨w.heap.size, 4, none⟩ = some (.int .u32 ne) ∧ u.cell? ⟨w.heap.size, 5, none⟩ = some (.int .u8 a.toNat) ∧ u.cell? ⟨w.heap.size, 6, none⟩ = some (.int .u8 b.toNat) ∧ u.cell? ⟨w.heap.size, 7, none⟩ = some (.int .u8 c.toNat) ∧ u.cell? ⟨w.heap.size, 8, none⟩ = some (.int .u8 d.toNat) ∧ u.cell? ⟨w.heap.size, 9, none⟩ = some (.int .u8 e.toNat) ∧ u.cell? ⟨w.heap.size, 10, none⟩ = some (.int .u8 f.toNat)) (go_keep)
      (first | (go_at_call 91; refine (ip_zero _).mono ?_; rintro ee u1 ⟨rfl, hb1⟩; have hB1 : Below W1.heap.size W1 u1 := (by first | exact hB1.trans (hb1.mono hB1.size) | exact hB1.drew.trans (hb1.mono hB1.size)); have hcc1 := cells_on (unhide HCW) (by omega) hB1; have hzz1 := hB1.size; clear hb1) | (go_at_call 91; refine (ip_lit _ _ (by omega) (by omega)).mono ?_; rintro ee u1 ⟨rfl, hb1⟩; have hB1 : Below W1.heap.size W1 u1 := (by first | exact hB1.trans (hb1.mono hB1.size) | exact hB1.drew.trans (hb1.mono hB1.size)); have hcc1 := cells_on (unhide HCW) (by omega) hB1; have hzz1 := hB1.size; clear hb1) | (go_at_call 132; refine (mac_any _ _ _ _ _ _ _).mono ?_; rintro ee u1 ⟨rfl, hb1⟩; have hB1 : Below W1.heap.size W1 u1 := (by first | exact hB1.trans (hb1.mono hB1.size) | exact hB1.drew.trans (hb1.mono hB1.size)); have hcc1 := cells_on (unhide HCW) (by omega) hB1; have hzz1 := hB1.size; clear hb1) | (go_at_call 135; refine (zero_any _ 236 _ (unhide HHZ) (by omega)).mono ?_; rintro ee u1 ⟨rfl, hb1⟩; have hB1 : Below W1.heap.size W1 u1 := (by first | exact hB1.trans (hb1.mono hB1.size) | exact hB1.drew.trans (hb1.mono hB1.size)); have hcc1 := cells_on (unhide HCW) (by omega) hB1; have hzz1 := hB1.size; clear hb1))
    go_wp2
    go_meet
    exact ⟨congrArg Value.string (unhide HJ), hide hB1⟩
  case rest =>
    obtain ⟨rfl, HBC⟩ := hcut
    rename World => wc
    clear hB1 hcc1
    have c11 : wc.cell? ⟨w.heap.size, 11, none⟩ = some (.slice sa os.length sc) := by
      rw [(unhide HBC).cell (p := ⟨w.heap.size, 11, none⟩) (by show w.heap.size < _; omega), unhide HCW 11]; rfl
    have HBW : Hid (Below w.heap.size w wc) := hide ((unhide HW1).trans ((unhide HBC).mono (by omega)))
    clear HBC HCW HHZ HJ HW1 haddZ
    go_wp2
    clear c11
    go_loopw [4, 48] (fun s4 i wr => ∃ k : Nat, k ≤ os.length ∧ i = .int .i64 k ∧ s4 = .string ⟨(H ++ opts8 (os.take k)).toArray⟩ ∧ Hid (bad (os.take k) = false) ∧ Hid (Below w.heap.size w wr)) (fun _ i _ => os.length - (intOf i).toNat)
    case atStart => exact ⟨0, Nat.zero_le _, rfl, by simp [opts8], hide rfl, HBW⟩
    case round =>
      obtain ⟨k, hk, rfl, rfl, HBD, HW⟩ := hrel
      rename World => wr
      have hkl := opts8_le os k
      obtain ⟨X, hX⟩ : ∃ X, H ++ opts8 (os.take k) = X := ⟨_, rfl⟩
      have hXl : X.length ≤ 4195776 := by rw [← hX, List.length_append]; omega
      by_cases hlt : k < os.length
      · obtain ⟨ad, rfl, c0, c1⟩ := (unhide HA).below (unhide HW) (Nat.le_refl _) k hlt
        obtain ⟨oc, od, hcd⟩ : ∃ x y, os[k] = (x, y) := ⟨_, _, rfl⟩
        rw [hcd] at c0 c1
        simp only at c0 c1
        have hd : od.length ≤ 2097152 := by have := heavy_one os k hlt; rw [hcd] at this; simp only at this; omega
        have hbadk := bad_take hlt (unhide HBD)
        have hbat := @bad_at os k hlt
        rw [hcd] at hbadk hbat
        have HT := hide (opts8_take os k hlt)
        rw [hcd] at HT
        rw [hX]
        have HX := hide hX
        have hc8 := oc.toNat_lt
        clear hcd hX
        by_cases hb : badC oc = true
        · have hbd := hbat hb
          have HE1 : Hid (dhE false xid 0 yo ne [a, b, c, d, e, f] os = 2) := hide (by rw [dhE, if_pos hbd])
          have HE2 : Hid (dhS false xid 0 yo ne [a, b, c, d, e, f] os = ⟨#[]⟩) := hide (by rw [dhS, if_pos hbd])
          have hbb : oc.toNat = 0 ∨ oc.toNat = 52 ∨ oc.toNat = 255 := by simpa [badC, or_assoc] using hb
          clear hb hbat hbadk hbd
          rcases hbb with e0 | e0 | e0
          all_goals
            rw [e0] at c0
            clear e0
            go_wp2
            go_ret2
            exact ⟨by rw [unhide HE1, unhide HE2]; rfl, (unhide HW).alloc (unhide HW).size _⟩
        · have HB2 := hide (hbadk (by simpa using hb))
          have hbb : ¬ oc.toNat = 0 ∧ ¬ oc.toNat = 52 ∧ ¬ oc.toNat = 255 := by simpa [badC, and_assoc] using hb
          obtain ⟨g0, g1, g2⟩ := hbb
          have q0 : (((oc.toNat : Nat) : Int) == 0) = false := by simp; omega
          have q1 : (((oc.toNat : Nat) : Int) == 52) = false := by simp; omega
          have q2 : (((oc.toNat : Nat) : Int) == 255) = false := by simp; omega
          clear hb hbat hbadk g0 g1 g2
          obtain ⟨Wi, hWi⟩ : ∃ Wi, Wi = wr.alloc (.cells #[.int .u8 oc.toNat, .string ⟨od.toArray⟩] 151) := ⟨_, rfl⟩
          have hoc : ∀ wi, Below (wr.heap.size + 1) Wi wi → wi.cell? ⟨wr.heap.size, 0, none⟩ = some (.int .u8 oc.toNat) := fun wi hbi => by
            rw [hbi.cell (p := ⟨wr.heap.size, 0, none⟩) (by show wr.heap.size < _; omega), hWi, cell_of_row _ wr.heap.size 0 _ _ (0, 0) (heap_alloc_new wr _)]; rfl
          have HOC := hide hoc
          have HWI : Hid (Below w.heap.size w Wi ∧ Wi.heap.size = wr.heap.size + 1) := hide (by rw [hWi]; exact ⟨(unhide HW).alloc (unhide HW).size _, by simp⟩)
          have HWW := hide hWi
          clear hoc hWi
          go_wp2
          rw [← unhide HWW]
          clear HWW c0 c1 q0 q1 q2
          go_loopg [4, 7] od.length (fun g s4 s7 wi => ∃ m done : List UInt8, m.length = g ∧ g ≤ od.length ∧ s7 = .string ⟨m.toArray⟩ ∧ s4 = .string ⟨(X ++ done).toArray⟩ ∧ Hid (done ++ opt8 oc m = opt8 oc od) ∧ Hid (done.length ≤ 2 * (od.length - g)) ∧ Hid (Below (wr.heap.size + 1) Wi wi))
          case atStart => exact ⟨od, [], rfl, Nat.le_refl _, rfl, by simp, hide rfl, hide (by simp), hide (Below.refl _ _)⟩
          case round =>
            obtain ⟨m, done, hm, hg, rfl, rfl, H2, H3, H4⟩ := hrel
            rename World => wi
            have o0 := unhide HOC _ (unhide H4)
            have hgl := unhide H3
            obtain ⟨s, hS⟩ : ∃ s : ByteArray, s = ⟨m.toArray⟩ := ⟨_, rfl⟩
            have hz' : s.size = m.length := by rw [hS]; exact str_size m
            obtain ⟨t, hT⟩ : ∃ t : ByteArray, t = ⟨(X ++ done).toArray⟩ := ⟨_, rfl⟩
            have ht' : t.size ≤ 8390080 := by rw [hT, str_size, List.length_append]; omega
            by_cases hlt2 : 255 < m.length
            · have hgt : (255 : Int) < (s.size : Int) := by omega
              have hs1 : s.size ≤ 9223372036854775807 := by omega
              have hez : (s.extract 0 255).size = 255 := by rw [ByteArray.size_extract]; omega
              have hcv1 := conv_two wi oc.toNat 255 (by omega) (by omega)
              have hcv2 := conv_drew wi oc.toNat 255 (by omega) (by omega)
              have had1 := fun u => run_string_add_sum (P := Tryz.prog) u ⟨#[by8 (oc.toNat : Int), by8 255]⟩ (s.extract 0 255) (by show 2 + _ ≤ _; omega)
              have had2 := fun u => run_string_add_sum (P := Tryz.prog) u t (⟨#[by8 (oc.toNat : Int), by8 255]⟩ ++ s.extract 0 255) (by rw [ByteArray.size_append]; show _ + (2 + _) ≤ _; omega)
              have HD : Hid (s.extract 255 s.size = ⟨(m.drop 255).toArray⟩) := hide (by rw [hS]; exact str_drop m 255)
              have HE : Hid (t ++ (⟨#[by8 (oc.toNat : Int), by8 255]⟩ ++ s.extract 0 255) = ⟨(X ++ (done ++ (oc :: 255 :: m.take 255))).toArray⟩) := hide (by
                rw [hT, hS, str_take, by8_nat]
                apply ByteArray.ext
                apply Array.ext'
                simp [ByteArray.data_append]
                decide)
              have HG := hide hm
              have HLT := hide hlt2
              rw [← hS, ← hT]
              clear hS hT hz' ht' hm hgl hlt2 hez
              go_wp2
              go_region
              all_goals go_wp2
              all_goals go_roundg (gk - 255)
              all_goals first
                | (have := unhide HG; have := unhide HLT; omega)
                | (refine ⟨m.drop 255, done ++ (oc :: 255 :: m.take 255), by have := unhide HG; rw [List.length_drop]; omega, by omega, congrArg Value.string (unhide HD), congrArg Value.string (unhide HE), hide ?_, hide ?_, hide (by first | exact ((unhide H4).alloc (by have q := (unhide H4).size; rw [(unhide HWI).2] at q; exact q) _).drew | exact (unhide H4).drew.alloc (by have q := (unhide H4).size; rw [(unhide HWI).2] at q; exact q) _)⟩
                   · rw [← unhide H2, opt8_long oc m (unhide HLT)]; simp
                   · have := unhide H3
                     have := unhide HG
                     have := unhide HLT
                     rw [List.length_append, List.length_cons, List.length_cons, List.length_take]
                     omega)
            · have hgt : ¬ (255 : Int) < (s.size : Int) := by omega
              have hqs : IntKind.u8.wrap (s.size : Int) = (s.size : Int) := by rw [IntKind.wrap_u8]; omega
              have hcv1 := conv_two wi oc.toNat s.size (by omega) (by omega)
              have had1 := fun u => run_string_add_sum (P := Tryz.prog) u ⟨#[by8 (oc.toNat : Int), by8 (s.size : Int)]⟩ s (by show 2 + _ ≤ _; omega)
              have had2 := fun u => run_string_add_sum (P := Tryz.prog) u t (⟨#[by8 (oc.toNat : Int), by8 (s.size : Int)]⟩ ++ s) (by rw [ByteArray.size_append]; show _ + (2 + _) ≤ _; omega)
              have HE : Hid (t ++ (⟨#[by8 (oc.toNat : Int), by8 (s.size : Int)]⟩ ++ s) = ⟨(H ++ opts8 (os.take (k + 1))).toArray⟩) := hide (by
                rw [unhide HT, ← List.append_assoc, unhide HX, ← unhide H2, opt8_short oc m hlt2, hz', hT, hS, by8_nat, by8_len]
                apply ByteArray.ext
                apply Array.ext'
                simp [ByteArray.data_append])
              rw [← hS, ← hT]
              clear hS hT hz' ht' hm hgl hlt2
              go_wp2
              go_roundw
              case rel => exact ⟨k + 1, by omega, by go_num, congrArg Value.string (unhide HE), HB2, hide ((unhide HWI).1.trans (((unhide H4).alloc (by have q := (unhide H4).size; rw [(unhide HWI).2] at q; exact q) _).mono (by have := (unhide HW).size; omega)))⟩
              case measure => simp [intOf]; omega
      · have e0 : k = os.length := by omega
        subst e0
        rw [List.take_length] at hX hkl
        have hnb := unhide HBD
        rw [List.take_length] at hnb ⊢
        have hX255 : X ++ [255] = allL false xid 0 yo ne [a, b, c, d, e, f] os := by rw [← hX]; exact unhide HALL
        obtain ⟨t, hT⟩ : ∃ t : ByteArray, t = ⟨X.toArray⟩ := ⟨_, rfl⟩
        have ht' : t.size = X.length := by rw [hT]; exact str_size X
        have had1 := fun u => run_string_add_sum (P := Tryz.prog) u t ⟨#[255]⟩ (by show _ + 1 ≤ _; omega)
        obtain ⟨z, hZ⟩ : ∃ z : ByteArray, z = ⟨(fullL (allL false xid 0 yo ne [a, b, c, d, e, f] os)).toArray⟩ := ⟨_, rfl⟩
        have HZC : Hid (∀ u, Calls Tryz.prog 135 #[.string (t ++ ⟨#[255]⟩), .int .i64 300] u fun ee w' => ee = .returned (.string z) ∧ Below u.heap.size u w') := hide (fun u => zero_end X _ t z hT hX255 hZ (by omega) u)
        have hzl : (1472 < z.size) = (1472 < (allL false xid 0 yo ne [a, b, c, d, e, f] os).length) := by rw [hZ, str_size, fullL_length]
        have HZ := hide hZ
        rw [hX, ← hT]
        by_cases hbig : 1472 < (allL false xid 0 yo ne [a, b, c, d, e, f] os).length
        · have hzz2 : 1472 < z.size := by rw [hzl]; exact hbig
          have hgt : (1472 : Int) < (z.size : Int) := by omega
          have HE1 : Hid (dhE false xid 0 yo ne [a, b, c, d, e, f] os = 7) := hide (by rw [dhE, hnb, if_neg (by decide), if_pos hbig])
          have HE2 : Hid (dhS false xid 0 yo ne [a, b, c, d, e, f] os = ⟨#[]⟩) := hide (by rw [dhS, hnb, if_neg (by decide), if_pos hbig])
          clear hX hT hZ hzl hbig hX255 hzz2 ht' hnb
          go_wp2_with fail
          refine (unhide HZC _).mono ?_
          rintro ee w9 ⟨rfl, hb9⟩
          have HB9 := hide hb9
          clear hb9
          go_wp2
          go_ret2
          exact ⟨by rw [unhide HE1, unhide HE2]; rfl, (unhide HW).trans ((unhide HB9).mono (unhide HW).size)⟩
        · have hzz2 : ¬ 1472 < z.size := by rw [hzl]; exact hbig
          have hgt : ¬ (1472 : Int) < (z.size : Int) := by omega
          have HE1 : Hid (dhE false xid 0 yo ne [a, b, c, d, e, f] os = 0) := hide (by rw [dhE, hnb, if_neg (by decide), if_neg hbig])
          have HE2 : Hid (dhS false xid 0 yo ne [a, b, c, d, e, f] os = z) := hide (by rw [dhS, hnb, if_neg (by decide), if_neg hbig, hZ])
          clear hX hT hZ hzl hbig hX255 hzz2 ht' hnb
          go_wp2_with fail
          refine (unhide HZC _).mono ?_
          rintro ee w9 ⟨rfl, hb9⟩
          have HB9 := hide hb9
          clear hb9
          go_wp2
          go_ret2
          exact ⟨by rw [unhide HE1, unhide HE2]; rfl, (unhide HW).trans ((unhide HB9).mono (unhide HW).size)⟩

set_option maxHeartbeats 16000000 in
set_option maxRecDepth 10000 in
theorem ref_qn (xid cl yo ne : Int) (a b c d e f : UInt8) (sa : Option Addr) (sc : Nat) (os : Opts) (w : World) (hx : 0 ≤ xid ∧ xid ≤ 4294967295) (hc : 0 ≤ cl ∧ cl ≤ 4294967295) (hy : 0 ≤ yo ∧ yo ≤ 4294967295) (hn : 0 ≤ ne ∧ ne ≤ 4294967295) (hA : At w sa os) (hl : heavy os ≤ 2097152) (hz : ¬ cl = 0) :
    Calls Tryz.prog 94 #[.agg #[.bool false, .int .u32 xid, .int .u32 cl, .int .u32 yo, .int .u32 ne, .int .u8 a.toNat, .int .u8 b.toNat, .int .u8 c.toNat, .int .u8 d.toNat, .int .u8 e.toNat, .int .u8 f.toNat, .slice sa os.length sc]] w fun ee w' =>
      ee = .returned (.tuple #[.string (dhS false xid cl yo ne [a, b, c, d, e, f] os), .int .i64 (dhE false xid cl yo ne [a, b, c, d, e, f] os)]) ∧ Below w.heap.size w w' := by
  have hlen : os.length ≤ heavy os := by unfold heavy; omega
  have hh8 := opts8_heavy os
  obtain ⟨hx0, hx1⟩ := hx
  obtain ⟨hy0, hy1⟩ := hy
  obtain ⟨hn0, hn1⟩ := hn
  obtain ⟨hc0, hc1⟩ := hc
  have hzz : (cl == 0) = false := by simpa using hz
  have hqx : IntKind.i64.wrap xid = xid := wrap_i64 _ (by omega) (by omega)
  have HBX := hide (big_any xid 4 (w.alloc (.cells #[.bool false, .int .u32 xid, .int .u32 cl, .int .u32 yo, .int .u32 ne, .int .u8 a.toNat, .int .u8 b.toNat, .int .u8 c.toNat, .int .u8 d.toNat, .int .u8 e.toNat, .int .u8 f.toNat, .slice sa os.length sc] 127)) hx0 (by omega) (by omega))
  obtain ⟨H, hH⟩ : ∃ H, H = headL 1 0 xid cl yo ne [a, b, c, d, e, f] := ⟨_, rfl⟩
  have hHl : H.length = 240 := by rw [hH]; exact headL_length _ _ _ _ _ _ _ rfl
  have HJ : Hid (zeroS ((⟨#[1, 1, 6, 0]⟩ : ByteArray) ++ (⟨#[by8 (xid / 256 / 256 / 256), by8 (xid / 256 / 256), by8 (xid / 256), by8 xid]⟩ ++ ⟨#[0, 0]⟩) ++ (⟨#[0, 0]⟩ : ByteArray) ++ ⟨#[by8 (cl / 256 / 256 / 256), by8 (cl / 256 / 256), by8 (cl / 256), by8 cl]⟩ ++ ⟨#[by8 (yo / 256 / 256 / 256), by8 (yo / 256 / 256), by8 (yo / 256), by8 yo]⟩ ++ ⟨#[by8 (ne / 256 / 256 / 256), by8 (ne / 256 / 256), by8 (ne / 256), by8 ne]⟩ ++ ⟨#[0, 0, 0, 0]⟩ ++ ⟨#[a, b, c, d, e, f]⟩) 236 ++ ⟨#[99, 130, 83, 99]⟩ = ⟨H.toArray⟩) := hide (by rw [hH]; exact head_join 1 0 xid cl yo ne a b c d e f _ _ _ rfl rfl (by first | rfl | decide))
  have HALL : Hid (H ++ opts8 os ++ [255] = allL false xid cl yo ne [a, b, c, d, e, f] os) := hide (by rw [hH, allL, show flI cl = 0 from if_neg hz]; rfl)
  have hzs : (zeroS ((⟨#[1, 1, 6, 0]⟩ : ByteArray) ++ (⟨#[by8 (xid / 256 / 256 / 256), by8 (xid / 256 / 256), by8 (xid / 256), by8 xid]⟩ ++ ⟨#[0, 0]⟩) ++ (⟨#[0, 0]⟩ : ByteArray) ++ ⟨#[by8 (cl / 256 / 256 / 256), by8 (cl / 256 / 256), by8 (cl / 256), by8 cl]⟩ ++ ⟨#[by8 (yo / 256 / 256 / 256), by8 (yo / 256 / 256), by8 (yo / 256), by8 yo]⟩ ++ ⟨#[by8 (ne / 256 / 256 / 256), by8 (ne / 256 / 256), by8 (ne / 256), by8 ne]⟩ ++ ⟨#[0, 0, 0, 0]⟩ ++ ⟨#[a, b, c, d, e, f]⟩) 236).size + 4 = 240 := by
    have q := congrArg ByteArray.size (unhide HJ)
    rw [ByteArray.size_append, str_size] at q
    have q2 := q.trans hHl
    exact q2
  have haddZ := fun u => run_string_add_sum (P := Tryz.prog) u (zeroS ((⟨#[1, 1, 6, 0]⟩ : ByteArray) ++ (⟨#[by8 (xid / 256 / 256 / 256), by8 (xid / 256 / 256), by8 (xid / 256), by8 xid]⟩ ++ ⟨#[0, 0]⟩) ++ (⟨#[0, 0]⟩ : ByteArray) ++ ⟨#[by8 (cl / 256 / 256 / 256), by8 (cl / 256 / 256), by8 (cl / 256), by8 cl]⟩ ++ ⟨#[by8 (yo / 256 / 256 / 256), by8 (yo / 256 / 256), by8 (yo / 256), by8 yo]⟩ ++ ⟨#[by8 (ne / 256 / 256 / 256), by8 (ne / 256 / 256), by8 (ne / 256), by8 ne]⟩ ++ ⟨#[0, 0, 0, 0]⟩ ++ ⟨#[a, b, c, d, e, f]⟩) 236) ⟨#[99, 130, 83, 99]⟩ (by show _ + 4 ≤ _; omega)
  have HA := hide hA
  clear hA hH hzs
  go_enter Tryz.func94, Tryz.ntmps94
  go_wp2_with fail
  refine (unhide HBX).mono ?_
  rintro ee w1 ⟨rfl, hb1⟩
  have hcW := six_cells' hb1
  have hzW : w.heap.size + 1 ≤ w1.heap.size := by have := hb1.size; simpa using this
  have HW1 : Hid (Below w.heap.size w w1) := hide (((Below.refl _ _).alloc (Nat.le_refl _) _).trans (hb1.mono (by simp)))
  clear hb1 HBX
  simp only [bigL, List.nil_append, List.cons_append]
  obtain ⟨W1, hW1⟩ : ∃ W1, W1 = w1 := ⟨_, rfl⟩
  rw [← hW1] at hcW hzW HW1
  subst hW1
  have HCW := hide hcW
  have HHZ := hide (show ((⟨#[1, 1, 6, 0]⟩ : ByteArray) ++ (⟨#[by8 (xid / 256 / 256 / 256), by8 (xid / 256 / 256), by8 (xid / 256), by8 xid]⟩ ++ ⟨#[0, 0]⟩) ++ (⟨#[0, 0]⟩ : ByteArray) ++ ⟨#[by8 (cl / 256 / 256 / 256), by8 (cl / 256 / 256), by8 (cl / 256), by8 cl]⟩ ++ ⟨#[by8 (yo / 256 / 256 / 256), by8 (yo / 256 / 256), by8 (yo / 256), by8 yo]⟩ ++ ⟨#[by8 (ne / 256 / 256 / 256), by8 (ne / 256 / 256), by8 (ne / 256), by8 ne]⟩ ++ ⟨#[0, 0, 0, 0]⟩ ++ ⟨#[a, b, c, d, e, f]⟩).size ≤ 1099511627776 by show 34 ≤ _; omega)
  have hB1 : Below W1.heap.size W1 W1 := Below.refl _ _
  have hcc1 := hcW
  clear hcW
  go_wp2
  go_cut [4] (fun s4 wc => s4 = .string ⟨H.toArray⟩ ∧ Hid (Below W1.heap.size W1 wc))
  case first =>
    go_region_held3 (fun u => u.cell? ⟨w.heap.size, 2, none⟩ = some (.int .u32 cl) ∧ u.cell? ⟨w.heap.size, 3, none⟩ = some (.int .u32 yo) ∧ u.cell? ⟨w.heap.size, 4, none⟩ = some (.int .u32 ne) ∧ u.cell? ⟨w.heap.size, 5, none⟩ = some (.int .u8 a.toNat) ∧ u.cell? ⟨w.heap.size, 6, none⟩ = some (.int .u8 b.toNat) ∧ u.cell? ⟨w.heap.size, 7, none⟩ = some (.int .u8 c.toNat) ∧ u.cell? ⟨w.heap.size, 8, none⟩ = some (.int .u8 d.toNat) ∧ u.cell? ⟨w.heap.size, 9, none⟩ = some (.int .u8 e.toNat) ∧ u.cell? ⟨w.heap.size, 10, none⟩ = some (.int .u8 f.toNat)) (go_keep)
      (first | (go_at_call 91; refine (ip_zero _).mono ?_; rintro ee u1 ⟨rfl, hb1⟩; have hB1 : Below W1.heap.size W1 u1 := (by first | exact hB1.trans (hb1.mono hB1.size) | exact hB1.drew.trans (hb1.mono hB1.size)); have hcc1 := cells_on (unhide HCW) (by omega) hB1; have hzz1 := hB1.size; clear hb1) | (go_at_call 91; refine (ip_lit _ _ (by omega) (by omega)).mono ?_; rintro ee u1 ⟨rfl, hb1⟩; have hB1 : Below W1.heap.size W1 u1 := (by first | exact hB1.trans (hb1.mono hB1.size) | exact hB1.drew.trans (hb1.mono hB1.size)); have hcc1 := cells_on (unhide HCW) (by omega) hB1; have hzz1 := hB1.size; clear hb1) | (go_at_call 132; refine (mac_any _ _ _ _ _ _ _).mono ?_; rintro ee u1 ⟨rfl, hb1⟩; have hB1 : Below W1.heap.size W1 u1 := (by first | exact hB1.trans (hb1.mono hB1.size) | exact hB1.drew.trans (hb1.mono hB1.size)); have hcc1 := cells_on (unhide HCW) (by omega) hB1; have hzz1 := hB1.size; clear hb1) | (go_at_call 135; refine (zero_any _ 236 _ (unhide HHZ) (by omega)).mono ?_; rintro ee u1 ⟨rfl, hb1⟩; have hB1 : Below W1.heap.size W1 u1 := (by first | exact hB1.trans (hb1.mono hB1.size) | exact hB1.drew.trans (hb1.mono hB1.size)); have hcc1 := cells_on (unhide HCW) (by omega) hB1; have hzz1 := hB1.size; clear hb1))
    go_wp2
    go_meet
    exact ⟨congrArg Value.string (unhide HJ), hide hB1⟩
  case rest =>
    obtain ⟨rfl, HBC⟩ := hcut
    rename World => wc
    clear hB1 hcc1
    have c11 : wc.cell? ⟨w.heap.size, 11, none⟩ = some (.slice sa os.length sc) := by
      rw [(unhide HBC).cell (p := ⟨w.heap.size, 11, none⟩) (by show w.heap.size < _; omega), unhide HCW 11]; rfl
    have HBW : Hid (Below w.heap.size w wc) := hide ((unhide HW1).trans ((unhide HBC).mono (by omega)))
    clear HBC HCW HHZ HJ HW1 haddZ
    go_wp2
    clear c11
    go_loopw [4, 48] (fun s4 i wr => ∃ k : Nat, k ≤ os.length ∧ i = .int .i64 k ∧ s4 = .string ⟨(H ++ opts8 (os.take k)).toArray⟩ ∧ Hid (bad (os.take k) = false) ∧ Hid (Below w.heap.size w wr)) (fun _ i _ => os.length - (intOf i).toNat)
    case atStart => exact ⟨0, Nat.zero_le _, rfl, by simp [opts8], hide rfl, HBW⟩
    case round =>
      obtain ⟨k, hk, rfl, rfl, HBD, HW⟩ := hrel
      rename World => wr
      have hkl := opts8_le os k
      obtain ⟨X, hX⟩ : ∃ X, H ++ opts8 (os.take k) = X := ⟨_, rfl⟩
      have hXl : X.length ≤ 4195776 := by rw [← hX, List.length_append]; omega
      by_cases hlt : k < os.length
      · obtain ⟨ad, rfl, c0, c1⟩ := (unhide HA).below (unhide HW) (Nat.le_refl _) k hlt
        obtain ⟨oc, od, hcd⟩ : ∃ x y, os[k] = (x, y) := ⟨_, _, rfl⟩
        rw [hcd] at c0 c1
        simp only at c0 c1
        have hd : od.length ≤ 2097152 := by have := heavy_one os k hlt; rw [hcd] at this; simp only at this; omega
        have hbadk := bad_take hlt (unhide HBD)
        have hbat := @bad_at os k hlt
        rw [hcd] at hbadk hbat
        have HT := hide (opts8_take os k hlt)
        rw [hcd] at HT
        rw [hX]
        have HX := hide hX
        have hc8 := oc.toNat_lt
        clear hcd hX
        by_cases hb : badC oc = true
        · have hbd := hbat hb
          have HE1 : Hid (dhE false xid cl yo ne [a, b, c, d, e, f] os = 2) := hide (by rw [dhE, if_pos hbd])
          have HE2 : Hid (dhS false xid cl yo ne [a, b, c, d, e, f] os = ⟨#[]⟩) := hide (by rw [dhS, if_pos hbd])
          have hbb : oc.toNat = 0 ∨ oc.toNat = 52 ∨ oc.toNat = 255 := by simpa [badC, or_assoc] using hb
          clear hb hbat hbadk hbd
          rcases hbb with e0 | e0 | e0
          all_goals
            rw [e0] at c0
            clear e0
            go_wp2
            go_ret2
            exact ⟨by rw [unhide HE1, unhide HE2]; rfl, (unhide HW).alloc (unhide HW).size _⟩
        · have HB2 := hide (hbadk (by simpa using hb))
          have hbb : ¬ oc.toNat = 0 ∧ ¬ oc.toNat = 52 ∧ ¬ oc.toNat = 255 := by simpa [badC, and_assoc] using hb
          obtain ⟨g0, g1, g2⟩ := hbb
          have q0 : (((oc.toNat : Nat) : Int) == 0) = false := by simp; omega
          have q1 : (((oc.toNat : Nat) : Int) == 52) = false := by simp; omega
          have q2 : (((oc.toNat : Nat) : Int) == 255) = false := by simp; omega
          clear hb hbat hbadk g0 g1 g2
          obtain ⟨Wi, hWi⟩ : ∃ Wi, Wi = wr.alloc (.cells #[.int .u8 oc.toNat, .string ⟨od.toArray⟩] 151) := ⟨_, rfl⟩
          have hoc : ∀ wi, Below (wr.heap.size + 1) Wi wi → wi.cell? ⟨wr.heap.size, 0, none⟩ = some (.int .u8 oc.toNat) := fun wi hbi => by
            rw [hbi.cell (p := ⟨wr.heap.size, 0, none⟩) (by show wr.heap.size < _; omega), hWi, cell_of_row _ wr.heap.size 0 _ _ (0, 0) (heap_alloc_new wr _)]; rfl
          have HOC := hide hoc
          have HWI : Hid (Below w.heap.size w Wi ∧ Wi.heap.size = wr.heap.size + 1) := hide (by rw [hWi]; exact ⟨(unhide HW).alloc (unhide HW).size _, by simp⟩)
          have HWW := hide hWi
          clear hoc hWi
          go_wp2
          rw [← unhide HWW]
          clear HWW c0 c1 q0 q1 q2
          go_loopg [4, 7] od.length (fun g s4 s7 wi => ∃ m done : List UInt8, m.length = g ∧ g ≤ od.length ∧ s7 = .string ⟨m.toArray⟩ ∧ s4 = .string ⟨(X ++ done).toArray⟩ ∧ Hid (done ++ opt8 oc m = opt8 oc od) ∧ Hid (done.length ≤ 2 * (od.length - g)) ∧ Hid (Below (wr.heap.size + 1) Wi wi))
          case atStart => exact ⟨od, [], rfl, Nat.le_refl _, rfl, by simp, hide rfl, hide (by simp), hide (Below.refl _ _)⟩
          case round =>
            obtain ⟨m, done, hm, hg, rfl, rfl, H2, H3, H4⟩ := hrel
            rename World => wi
            have o0 := unhide HOC _ (unhide H4)
            have hgl := unhide H3
            obtain ⟨s, hS⟩ : ∃ s : ByteArray, s = ⟨m.toArray⟩ := ⟨_, rfl⟩
            have hz' : s.size = m.length := by rw [hS]; exact str_size m
            obtain ⟨t, hT⟩ : ∃ t : ByteArray, t = ⟨(X ++ done).toArray⟩ := ⟨_, rfl⟩
            have ht' : t.size ≤ 8390080 := by rw [hT, str_size, List.length_append]; omega
            by_cases hlt2 : 255 < m.length
            · have hgt : (255 : Int) < (s.size : Int) := by omega
              have hs1 : s.size ≤ 9223372036854775807 := by omega
              have hez : (s.extract 0 255).size = 255 := by rw [ByteArray.size_extract]; omega
              have hcv1 := conv_two wi oc.toNat 255 (by omega) (by omega)
              have hcv2 := conv_drew wi oc.toNat 255 (by omega) (by omega)
              have had1 := fun u => run_string_add_sum (P := Tryz.prog) u ⟨#[by8 (oc.toNat : Int), by8 255]⟩ (s.extract 0 255) (by show 2 + _ ≤ _; omega)
              have had2 := fun u => run_string_add_sum (P := Tryz.prog) u t (⟨#[by8 (oc.toNat : Int), by8 255]⟩ ++ s.extract 0 255) (by rw [ByteArray.size_append]; show _ + (2 + _) ≤ _; omega)
              have HD : Hid (s.extract 255 s.size = ⟨(m.drop 255).toArray⟩) := hide (by rw [hS]; exact str_drop m 255)
              have HE : Hid (t ++ (⟨#[by8 (oc.toNat : Int), by8 255]⟩ ++ s.extract 0 255) = ⟨(X ++ (done ++ (oc :: 255 :: m.take 255))).toArray⟩) := hide (by
                rw [hT, hS, str_take, by8_nat]
                apply ByteArray.ext
                apply Array.ext'
                simp [ByteArray.data_append]
                decide)
              have HG := hide hm
              have HLT := hide hlt2
              rw [← hS, ← hT]
              clear hS hT hz' ht' hm hgl hlt2 hez
              go_wp2
              go_region
              all_goals go_wp2
              all_goals go_roundg (gk - 255)
              all_goals first
                | (have := unhide HG; have := unhide HLT; omega)
                | (refine ⟨m.drop 255, done ++ (oc :: 255 :: m.take 255), by have := unhide HG; rw [List.length_drop]; omega, by omega, congrArg Value.string (unhide HD), congrArg Value.string (unhide HE), hide ?_, hide ?_, hide (by first | exact ((unhide H4).alloc (by have q := (unhide H4).size; rw [(unhide HWI).2] at q; exact q) _).drew | exact (unhide H4).drew.alloc (by have q := (unhide H4).size; rw [(unhide HWI).2] at q; exact q) _)⟩
                   · rw [← unhide H2, opt8_long oc m (unhide HLT)]; simp
                   · have := unhide H3
                     have := unhide HG
                     have := unhide HLT
                     rw [List.length_append, List.length_cons, List.length_cons, List.length_take]
                     omega)
            · have hgt : ¬ (255 : Int) < (s.size : Int) := by omega
              have hqs : IntKind.u8.wrap (s.size : Int) = (s.size : Int) := by rw [IntKind.wrap_u8]; omega
              have hcv1 := conv_two wi oc.toNat s.size (by omega) (by omega)
              have had1 := fun u => run_string_add_sum (P := Tryz.prog) u ⟨#[by8 (oc.toNat : Int), by8 (s.size : Int)]⟩ s (by show 2 + _ ≤ _; omega)
              have had2 := fun u => run_string_add_sum (P := Tryz.prog) u t (⟨#[by8 (oc.toNat : Int), by8 (s.size : Int)]⟩ ++ s) (by rw [ByteArray.size_append]; show _ + (2 + _) ≤ _; omega)
              have HE : Hid (t ++ (⟨#[by8 (oc.toNat : Int), by8 (s.size : Int)]⟩ ++ s) = ⟨(H ++ opts8 (os.take (k + 1))).toArray⟩) := hide (by
                rw [unhide HT, ← List.append_assoc, unhide HX, ← unhide H2, opt8_short oc m hlt2, hz', hT, hS, by8_nat, by8_len]
                apply ByteArray.ext
                apply Array.ext'
                simp [ByteArray.data_append])
              rw [← hS, ← hT]
              clear hS hT hz' ht' hm hgl hlt2
              go_wp2
              go_roundw
              case rel => exact ⟨k + 1, by omega, by go_num, congrArg Value.string (unhide HE), HB2, hide ((unhide HWI).1.trans (((unhide H4).alloc (by have q := (unhide H4).size; rw [(unhide HWI).2] at q; exact q) _).mono (by have := (unhide HW).size; omega)))⟩
              case measure => simp [intOf]; omega
      · have e0 : k = os.length := by omega
        subst e0
        rw [List.take_length] at hX hkl
        have hnb := unhide HBD
        rw [List.take_length] at hnb ⊢
        have hX255 : X ++ [255] = allL false xid cl yo ne [a, b, c, d, e, f] os := by rw [← hX]; exact unhide HALL
        obtain ⟨t, hT⟩ : ∃ t : ByteArray, t = ⟨X.toArray⟩ := ⟨_, rfl⟩
        have ht' : t.size = X.length := by rw [hT]; exact str_size X
        have had1 := fun u => run_string_add_sum (P := Tryz.prog) u t ⟨#[255]⟩ (by show _ + 1 ≤ _; omega)
        obtain ⟨z, hZ⟩ : ∃ z : ByteArray, z = ⟨(fullL (allL false xid cl yo ne [a, b, c, d, e, f] os)).toArray⟩ := ⟨_, rfl⟩
        have HZC : Hid (∀ u, Calls Tryz.prog 135 #[.string (t ++ ⟨#[255]⟩), .int .i64 300] u fun ee w' => ee = .returned (.string z) ∧ Below u.heap.size u w') := hide (fun u => zero_end X _ t z hT hX255 hZ (by omega) u)
        have hzl : (1472 < z.size) = (1472 < (allL false xid cl yo ne [a, b, c, d, e, f] os).length) := by rw [hZ, str_size, fullL_length]
        have HZ := hide hZ
        rw [hX, ← hT]
        by_cases hbig : 1472 < (allL false xid cl yo ne [a, b, c, d, e, f] os).length
        · have hzz2 : 1472 < z.size := by rw [hzl]; exact hbig
          have hgt : (1472 : Int) < (z.size : Int) := by omega
          have HE1 : Hid (dhE false xid cl yo ne [a, b, c, d, e, f] os = 7) := hide (by rw [dhE, hnb, if_neg (by decide), if_pos hbig])
          have HE2 : Hid (dhS false xid cl yo ne [a, b, c, d, e, f] os = ⟨#[]⟩) := hide (by rw [dhS, hnb, if_neg (by decide), if_pos hbig])
          clear hX hT hZ hzl hbig hX255 hzz2 ht' hnb
          go_wp2_with fail
          refine (unhide HZC _).mono ?_
          rintro ee w9 ⟨rfl, hb9⟩
          have HB9 := hide hb9
          clear hb9
          go_wp2
          go_ret2
          exact ⟨by rw [unhide HE1, unhide HE2]; rfl, (unhide HW).trans ((unhide HB9).mono (unhide HW).size)⟩
        · have hzz2 : ¬ 1472 < z.size := by rw [hzl]; exact hbig
          have hgt : ¬ (1472 : Int) < (z.size : Int) := by omega
          have HE1 : Hid (dhE false xid cl yo ne [a, b, c, d, e, f] os = 0) := hide (by rw [dhE, hnb, if_neg (by decide), if_neg hbig])
          have HE2 : Hid (dhS false xid cl yo ne [a, b, c, d, e, f] os = z) := hide (by rw [dhS, hnb, if_neg (by decide), if_neg hbig, hZ])
          clear hX hT hZ hzl hbig hX255 hzz2 ht' hnb
          go_wp2_with fail
          refine (unhide HZC _).mono ?_
          rintro ee w9 ⟨rfl, hb9⟩
          have HB9 := hide hb9
          clear hb9
          go_wp2
          go_ret2
          exact ⟨by rw [unhide HE1, unhide HE2]; rfl, (unhide HW).trans ((unhide HB9).mono (unhide HW).size)⟩

theorem ref_any (rep : Bool) (xid cl yo ne : Int) (a b c d e f : UInt8) (sa : Option Addr) (sc : Nat) (os : Opts) (w : World) (hx : 0 ≤ xid ∧ xid ≤ 4294967295) (hc : 0 ≤ cl ∧ cl ≤ 4294967295) (hy : 0 ≤ yo ∧ yo ≤ 4294967295) (hn : 0 ≤ ne ∧ ne ≤ 4294967295) (hA : At w sa os) (hl : heavy os ≤ 2097152) :
    Calls Tryz.prog 94 #[.agg #[.bool rep, .int .u32 xid, .int .u32 cl, .int .u32 yo, .int .u32 ne, .int .u8 a.toNat, .int .u8 b.toNat, .int .u8 c.toNat, .int .u8 d.toNat, .int .u8 e.toNat, .int .u8 f.toNat, .slice sa os.length sc]] w fun ee w' =>
      ee = .returned (.tuple #[.string (dhS rep xid cl yo ne [a, b, c, d, e, f] os), .int .i64 (dhE rep xid cl yo ne [a, b, c, d, e, f] os)]) ∧ Below w.heap.size w w' := by
  by_cases hz : cl = 0
  · subst hz
    cases rep
    · exact ref_qz xid yo ne a b c d e f sa sc os w hx hy hn hA hl
    · exact ref_rz xid yo ne a b c d e f sa sc os w hx hy hn hA hl
  · cases rep
    · exact ref_qn xid cl yo ne a b c d e f sa sc os w hx hc hy hn hA hl hz
    · exact ref_rn xid cl yo ne a b c d e f sa sc os w hx hc hy hn hA hl hz
end Go.Proofs.YtbhbbeebncmaiaaGreatDoor.Dh
namespace Go.Proofs.YtbhbbeebncmaiaaGreatDoor.Eth
open Go.ChangeShapes Go.WideShapes Go.ChangeAt Go.RowKit Bs Rb Wt Arp
set_option linter.unusedVariables false
theorem ret_pair {a b : ByteArray} {k : Int} (h : a = b) : Ending.returned (.tuple #[.string a, .int .i64 k]) = .returned (.tuple #[.string b, .int .i64 k]) := by rw [h]
theorem join (a b c d e f a' b' c' d' e' f' : UInt8) (ty : Int) (load : ByteArray) :
    zeroS ((((⟨#[a, b, c, d, e, f]⟩ : ByteArray) ++ ⟨#[a', b', c', d', e', f']⟩) ++ ⟨#[by8 (ty / 256), by8 ty]⟩) ++ load) 60 = ⟨(ethL [a, b, c, d, e, f, a', b', c', d', e', f'] ty load).toArray⟩ := by
  have e1 : ((((⟨#[a, b, c, d, e, f]⟩ : ByteArray) ++ ⟨#[a', b', c', d', e', f']⟩) ++ ⟨#[by8 (ty / 256), by8 ty]⟩) ++ load) = ⟨([a, b, c, d, e, f, a', b', c', d', e', f'] ++ word8 ty ++ load.data.toList).toArray⟩ := by
    apply ByteArray.ext
    apply Array.ext'
    simp [ByteArray.data_append, word8]
  rw [e1, ethL, zeroS]
  generalize [a, b, c, d, e, f, a', b', c', d', e', f'] ++ word8 ty ++ load.data.toList = L
  have e2 : (⟨L.toArray⟩ : ByteArray).size = L.length := by show L.toArray.size = _; simp
  rw [e2]
  split
  · have e3 : 60 - L.length = 0 := by omega
    rw [e3]; simp
  · exact add_str L _

set_option maxHeartbeats 4000000 in
theorem ref_ok (a b c d e f a' b' c' d' e' f' : UInt8) (ty : Int) (load : ByteArray) (w : World) (h1 : 0 ≤ ty) (h2 : ty ≤ 65535) (h3 : load.size ≤ 262144) (ht : okTy ty = true) (hl : okLoad load = true) :
    Calls Tryz.prog 133 #[.agg #[.int .u8 a.toNat, .int .u8 b.toNat, .int .u8 c.toNat, .int .u8 d.toNat, .int .u8 e.toNat, .int .u8 f.toNat, .int .u8 a'.toNat, .int .u8 b'.toNat, .int .u8 c'.toNat, .int .u8 d'.toNat, .int .u8 e'.toNat, .int .u8 f'.toNat, .int .u16 ty, .string load]] w fun ee w' =>
      ee = .returned (.tuple #[.string ⟨(ethL [a, b, c, d, e, f, a', b', c', d', e', f'] ty load).toArray⟩, .int .i64 0]) ∧ Below w.heap.size w w' := by
  have ht1 : 1536 ≤ ty := of_decide_eq_true ht
  have hs : load.size ≤ 1500 := of_decide_eq_true hl
  have hq1 : IntKind.i64.wrap ty = ty := wrap_i64 _ (by omega) (by omega)
  have hsz3 : ((((⟨#[a, b, c, d, e, f]⟩ : ByteArray) ++ ⟨#[a', b', c', d', e', f']⟩) ++ ⟨#[by8 (ty / 256), by8 ty]⟩)).size = 14 := by
    rw [ByteArray.size_append, ByteArray.size_append]; rfl
  have hadd := fun u => run_string_add_sum (P := Tryz.prog) u (((⟨#[a, b, c, d, e, f]⟩ : ByteArray) ++ ⟨#[a', b', c', d', e', f']⟩) ++ ⟨#[by8 (ty / 256), by8 ty]⟩) load (by rw [hsz3]; omega)
  have hsz4 : ((((⟨#[a, b, c, d, e, f]⟩ : ByteArray) ++ ⟨#[a', b', c', d', e', f']⟩) ++ ⟨#[by8 (ty / 256), by8 ty]⟩) ++ load).size ≤ 1099511627776 := by rw [ByteArray.size_append, hsz3]; omega
  have HZ := hide hsz4
  clear ht hl hsz3 hsz4
  go_enter Tryz.func133, Tryz.ntmps133
  go_wp2
  go_region_held3 (fun u => u.cell? ⟨w.heap.size, 0, none⟩ = some (.int .u8 a.toNat) ∧ u.cell? ⟨w.heap.size, 1, none⟩ = some (.int .u8 b.toNat) ∧ u.cell? ⟨w.heap.size, 2, none⟩ = some (.int .u8 c.toNat) ∧ u.cell? ⟨w.heap.size, 3, none⟩ = some (.int .u8 d.toNat) ∧ u.cell? ⟨w.heap.size, 4, none⟩ = some (.int .u8 e.toNat) ∧ u.cell? ⟨w.heap.size, 5, none⟩ = some (.int .u8 f.toNat) ∧ u.cell? ⟨w.heap.size, 6, none⟩ = some (.int .u8 a'.toNat) ∧ u.cell? ⟨w.heap.size, 7, none⟩ = some (.int .u8 b'.toNat) ∧ u.cell? ⟨w.heap.size, 8, none⟩ = some (.int .u8 c'.toNat) ∧ u.cell? ⟨w.heap.size, 9, none⟩ = some (.int .u8 d'.toNat) ∧ u.cell? ⟨w.heap.size, 10, none⟩ = some (.int .u8 e'.toNat) ∧ u.cell? ⟨w.heap.size, 11, none⟩ = some (.int .u8 f'.toNat) ∧ u.cell? ⟨w.heap.size, 12, none⟩ = some (.int .u16 ty) ∧ u.cell? ⟨w.heap.size, 13, none⟩ = some (.string load)
      ∧ w.heap.size < u.heap.size) (go_keep)
      (first | (go_at_call 131; refine (big2_lit _ _ (by omega) (by omega)).mono ?_; rintro ee u ⟨rfl, hb⟩; have hc := below_cells hb; have hz := hb.size; have hzz : w.heap.size < u.heap.size := by first | omega | (simp at hz; omega)) | (go_at_call 132; refine (mac_any _ _ _ _ _ _ _).mono ?_; rintro ee u ⟨rfl, hb⟩; have hc := below_cells hb; have hz := hb.size; have hzz : w.heap.size < u.heap.size := by first | omega | (simp at hz; omega)) | (go_at_call 135; refine (zero_any _ 60 _ (unhide HZ) (by omega)).mono ?_; rintro ee u ⟨rfl, hb⟩; have hc := below_cells hb; have hz := hb.size; have hzz : w.heap.size < u.heap.size := by first | omega | (simp at hz; omega)))
  go_wp2
  go_ret2
  refine ⟨ret_pair (join a b c d e f a' b' c' d' e' f' ty load), ?_⟩
  refine Below.trans ?_ (Below.mono ‹Below _ _ _› ?_)
  rotate_left
  · omega
  refine Below.trans ?_ (Below.mono ‹Below _ _ _› ?_)
  rotate_left
  · omega
  refine Below.trans ?_ (Below.mono ‹Below _ _ _› ?_)
  rotate_left
  · omega
  refine Below.trans ?_ (Below.mono ‹Below _ _ _› ?_)
  rotate_left
  · show w.heap.size ≤ (w.alloc _).heap.size
    simp
  exact ((Below.refl _ _).alloc (Nat.le_refl _) _).drew

set_option maxHeartbeats 1000000 in
theorem ref_any (a b c d e f a' b' c' d' e' f' : UInt8) (ty : Int) (load : ByteArray) (w : World) (h1 : 0 ≤ ty) (h2 : ty ≤ 65535) (h3 : load.size ≤ 262144) :
    Calls Tryz.prog 133 #[.agg #[.int .u8 a.toNat, .int .u8 b.toNat, .int .u8 c.toNat, .int .u8 d.toNat, .int .u8 e.toNat, .int .u8 f.toNat, .int .u8 a'.toNat, .int .u8 b'.toNat, .int .u8 c'.toNat, .int .u8 d'.toNat, .int .u8 e'.toNat, .int .u8 f'.toNat, .int .u16 ty, .string load]] w fun ee w' =>
      ee = .returned (.tuple #[.string (ethS [a, b, c, d, e, f, a', b', c', d', e', f'] ty load), .int .i64 (ethE ty load)]) ∧ Below w.heap.size w w' := by
  cases ht : okTy ty with
  | false =>
    have e1 : ethS [a, b, c, d, e, f, a', b', c', d', e', f'] ty load = ⟨#[]⟩ := by simp [ethS, ht]
    have e2 : ethE ty load = 3 := by simp [ethE, ht]
    have ht1 : ¬ 1536 ≤ ty := of_decide_eq_false ht
    rw [e1, e2]
    clear ht e1 e2
    go_enter Tryz.func133, Tryz.ntmps133
    go_wp2
    go_ret2
    exact ⟨rfl, (Below.refl _ _).alloc (Nat.le_refl _) _⟩
  | true =>
    cases hl : okLoad load with
    | false =>
      have e1 : ethS [a, b, c, d, e, f, a', b', c', d', e', f'] ty load = ⟨#[]⟩ := by simp [ethS, hl]
      have e2 : ethE ty load = 7 := by simp [ethE, ht, hl]
      have ht1 : 1536 ≤ ty := of_decide_eq_true ht
      have hl1 : ¬ load.size ≤ 1500 := of_decide_eq_false hl
      rw [e1, e2]
      clear ht hl e1 e2
      go_enter Tryz.func133, Tryz.ntmps133
      go_wp2
      go_ret2
      exact ⟨rfl, (Below.refl _ _).alloc (Nat.le_refl _) _⟩
    | true =>
      have e1 : ethS [a, b, c, d, e, f, a', b', c', d', e', f'] ty load = ⟨(ethL [a, b, c, d, e, f, a', b', c', d', e', f'] ty load).toArray⟩ := by simp [ethS, ht, hl]
      have e2 : ethE ty load = 0 := by simp [ethE, ht, hl]
      rw [e1, e2]
      exact ref_ok a b c d e f a' b' c' d' e' f' ty load w h1 h2 h3 ht hl
end Go.Proofs.YtbhbbeebncmaiaaGreatDoor.Eth
