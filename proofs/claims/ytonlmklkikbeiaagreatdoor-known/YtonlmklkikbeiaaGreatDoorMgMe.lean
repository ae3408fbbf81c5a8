import Derived.Test.YtonlmklkikbeiaaGreatDoorMgMd
import Derived.Deep.DeepCutAuto
import Derived.Deep.CutRange
import Derived.Laws.IdiomRangeMap
import Derived.LoopN
namespace Go.Proofs.YtonlmklkikbeiaaGreatDoor.Mac
open Go.ChangeShapes Go.WideShapes Go.ChangeAt Go.RowKit Bs
open Dh (Opts cellsO cellsO_one cellsO_length cellsO_append own_slice infoOpt heavy)
set_option linter.unusedVariables false
set_option linter.unusedSimpArgs false
variable {w0 : World} {P : Nat → Prop} {w w' : World} {B : Nat} {m m' : Mc}

theorem dhS_size (rep : Bool) (xid cl yo ne : Int) (c : List UInt8) (os : Opts) : (Dh.dhS rep xid cl yo ne c os).size ≤ 1472 := by
  unfold Dh.dhS
  split
  · show (#[] : Array UInt8).size ≤ _; simp
  · split
    · show (#[] : Array UInt8).size ≤ _; simp
    · rename_i h
      show (Dh.fullL _).toArray.size ≤ _
      have := Dh.fullL_length (Dh.allL rep xid cl yo ne c os)
      simp only [List.size_toArray]
      by_cases h2 : 1472 < (Dh.fullL (Dh.allL rep xid cl yo ne c os)).length
      · rw [this] at h2; exact absurd h2 h
      · omega
/-- a message of DHCP to all -/
def Mc.say (m : Mc) (kb : UInt8) (os : Opts) : Mc := m.toAll 68 67 (m.sayB kb os)
set_option maxHeartbeats 1000000 in
theorem say_nil (h : Mx w0 P w B m) (ho : m.Ok) (kb : UInt8) (hk4 : kb.toNat ≠ 4) :
    Calls Tryz.prog 104 #[.pointer (some ⟨B, 0, none⟩), .int .u8 kb.toNat, .slice none 0 0] w fun ee w' =>
      ee = .returned (.tuple #[]) ∧ Mx w0 P w' B (m.say kb []) := by
  have HS := hide (saying_nil h ho kb hk4)
  have hz := dhS_size false m.xid m.addr 0 0 m.card (sayO kb [])
  have HE : Hid (m.say kb [] = m.toAll 68 67 (m.sayB kb [])) := hide rfl
  obtain ⟨L, hL⟩ : ∃ L, L = m.sayB kb [] := ⟨_, rfl⟩
  have hLz : L.size ≤ 1472 := by rw [hL]; exact hz
  rw [← hL] at HS HE
  clear h hk4 hL hz
  go_enter Tryz.func104, Tryz.ntmps104
  go_wp2_with fail
  refine (unhide HS).mono ?_
  rintro ee u ⟨rfl, hu⟩
  have HU := hide hu
  clear hu HS
  go_wp2_with fail
  refine (toAll_any (unhide HU) ho 68 67 L (by omega) (by omega) (by omega)).mono ?_
  rintro ee u2 ⟨rfl, hu2⟩
  have HU2 := hide hu2
  clear hu2 HU
  go_wp2
  go_end0
  rw [unhide HE]
  exact ⟨rfl, unhide HU2⟩
/-- ticks of the wait behind the s-th time -/
def Mc.ticks (m : Mc) (s : Int) : Int := 2 * 2 ^ s.toNat + m.draw % 3 - 1
set_option maxHeartbeats 1000000 in
theorem waitMore_any (h : Mx w0 P w B m) (ho : m.Ok) (s u : Int) (hs : 0 ≤ s ∧ s ≤ 4) :
    Calls Tryz.prog 103 #[.pointer (some ⟨B, 0, none⟩), .agg #[.int .i64 s, .int .i64 u]] w fun ee w' =>
      ee = .returned (.agg #[.int .i64 (s + 1), .int .i64 (wrap64 (m.now + m.ticks s))]) ∧ Mx w0 P w' B m := by
  have HM := hide h
  have c14 := h.c14
  have c15 := h.c15
  have hd := ho.draw
  have hlt := h.lt
  have hm3 : (m.draw).tmod 3 = m.draw % 3 := Int.tmod_eq_emod_of_nonneg hd.1
  clear h
  unfold Mc.ticks
  obtain ⟨r, hr⟩ : ∃ r, r = m.draw % 3 := ⟨_, rfl⟩
  have hr3 : 0 ≤ r ∧ r ≤ 2 := by rw [hr]; omega
  rw [← hr] at hm3
  rw [← hr]
  clear hr
  have hcase : s = 0 ∨ s = 1 ∨ s = 2 ∨ s = 3 ∨ s = 4 := by omega
  rcases hcase with rfl | rfl | rfl | rfl | rfl
  · have hnf : ¬ Foot B m (w.heap.size + 1) := fun hf => by have := (unhide HM).foot_lt hf; omega
    have HNF := hide hnf
    clear hnf
    go_enter Tryz.func103, Tryz.ntmps103
    go_wp2
    go_quiet (fail)
    go_wp2
    go_region
    go_wp2
    have hrow : (((w.alloc (.cells #[.int .i64 0, .int .i64 u] 86)).alloc (.cells #[.int .i64 0, .int .i64 0] 86)).drewN (nq + 1)).heap[w.heap.size + 1]? = some (.cells #[.int .i64 0, .int .i64 0] 86 (0, 0)) := second_new w _ _
    obtain ⟨s0, s1, s2⟩ := two_set hrow (.int .i64 1) (.int .i64 (wrap64 (m.now + (2 + r - 1))))
    refine bodyPost_ret (v := .agg #[.int .i64 1, .int .i64 (wrap64 (m.now + (2 + r - 1)))]) (by simp [results, Tryz.results103, go_sem, s0, s1, s2]) rfl ?_
    refine ⟨rfl, ?_⟩
    have q : Mx w0 P (((w.alloc (.cells #[.int .i64 0, .int .i64 u] 86)).alloc (.cells #[.int .i64 0, .int .i64 0] 86)).drewN (nq + 1)) B m := (((unhide HM).alloc _).alloc _).like ⟨rfl, rfl, rfl, rfl⟩
    have hz : w0.heap.size ≤ w.heap.size + 1 := Nat.le_trans (unhide HM).size (Nat.le_succ _)
    exact (q.aside ⟨w.heap.size + 1, 0, none⟩ _ (unhide HNF) hz).aside ⟨w.heap.size + 1, 1, none⟩ _ (unhide HNF) hz
  · have hnf : ¬ Foot B m (w.heap.size + 1) := fun hf => by have := (unhide HM).foot_lt hf; omega
    have HNF := hide hnf
    clear hnf
    go_enter Tryz.func103, Tryz.ntmps103
    go_wp2
    go_quiet (fail)
    go_wp2
    go_region
    go_wp2
    have hrow : (((w.alloc (.cells #[.int .i64 1, .int .i64 u] 86)).alloc (.cells #[.int .i64 0, .int .i64 0] 86)).drewN (nq + 1)).heap[w.heap.size + 1]? = some (.cells #[.int .i64 0, .int .i64 0] 86 (0, 0)) := second_new w _ _
    obtain ⟨s0, s1, s2⟩ := two_set hrow (.int .i64 2) (.int .i64 (wrap64 (m.now + (4 + r - 1))))
    refine bodyPost_ret (v := .agg #[.int .i64 2, .int .i64 (wrap64 (m.now + (4 + r - 1)))]) (by simp [results, Tryz.results103, go_sem, s0, s1, s2]) rfl ?_
    refine ⟨rfl, ?_⟩
    have q : Mx w0 P (((w.alloc (.cells #[.int .i64 1, .int .i64 u] 86)).alloc (.cells #[.int .i64 0, .int .i64 0] 86)).drewN (nq + 1)) B m := (((unhide HM).alloc _).alloc _).like ⟨rfl, rfl, rfl, rfl⟩
    have hz : w0.heap.size ≤ w.heap.size + 1 := Nat.le_trans (unhide HM).size (Nat.le_succ _)
    exact (q.aside ⟨w.heap.size + 1, 0, none⟩ _ (unhide HNF) hz).aside ⟨w.heap.size + 1, 1, none⟩ _ (unhide HNF) hz
  · have hnf : ¬ Foot B m (w.heap.size + 1) := fun hf => by have := (unhide HM).foot_lt hf; omega
    have HNF := hide hnf
    clear hnf
    go_enter Tryz.func103, Tryz.ntmps103
    go_wp2
    go_quiet (fail)
    go_wp2
    go_region
    go_wp2
    have hrow : (((w.alloc (.cells #[.int .i64 2, .int .i64 u] 86)).alloc (.cells #[.int .i64 0, .int .i64 0] 86)).drewN (nq + 1)).heap[w.heap.size + 1]? = some (.cells #[.int .i64 0, .int .i64 0] 86 (0, 0)) := second_new w _ _
    obtain ⟨s0, s1, s2⟩ := two_set hrow (.int .i64 3) (.int .i64 (wrap64 (m.now + (8 + r - 1))))
    refine bodyPost_ret (v := .agg #[.int .i64 3, .int .i64 (wrap64 (m.now + (8 + r - 1)))]) (by simp [results, Tryz.results103, go_sem, s0, s1, s2]) rfl ?_
    refine ⟨rfl, ?_⟩
    have q : Mx w0 P (((w.alloc (.cells #[.int .i64 2, .int .i64 u] 86)).alloc (.cells #[.int .i64 0, .int .i64 0] 86)).drewN (nq + 1)) B m := (((unhide HM).alloc _).alloc _).like ⟨rfl, rfl, rfl, rfl⟩
    have hz : w0.heap.size ≤ w.heap.size + 1 := Nat.le_trans (unhide HM).size (Nat.le_succ _)
    exact (q.aside ⟨w.heap.size + 1, 0, none⟩ _ (unhide HNF) hz).aside ⟨w.heap.size + 1, 1, none⟩ _ (unhide HNF) hz
  · have hnf : ¬ Foot B m (w.heap.size + 1) := fun hf => by have := (unhide HM).foot_lt hf; omega
    have HNF := hide hnf
    clear hnf
    go_enter Tryz.func103, Tryz.ntmps103
    go_wp2
    go_quiet (fail)
    go_wp2
    go_region
    go_wp2
    have hrow : (((w.alloc (.cells #[.int .i64 3, .int .i64 u] 86)).alloc (.cells #[.int .i64 0, .int .i64 0] 86)).drewN (nq + 1)).heap[w.heap.size + 1]? = some (.cells #[.int .i64 0, .int .i64 0] 86 (0, 0)) := second_new w _ _
    obtain ⟨s0, s1, s2⟩ := two_set hrow (.int .i64 4) (.int .i64 (wrap64 (m.now + (16 + r - 1))))
    refine bodyPost_ret (v := .agg #[.int .i64 4, .int .i64 (wrap64 (m.now + (16 + r - 1)))]) (by simp [results, Tryz.results103, go_sem, s0, s1, s2]) rfl ?_
    refine ⟨rfl, ?_⟩
    have q : Mx w0 P (((w.alloc (.cells #[.int .i64 3, .int .i64 u] 86)).alloc (.cells #[.int .i64 0, .int .i64 0] 86)).drewN (nq + 1)) B m := (((unhide HM).alloc _).alloc _).like ⟨rfl, rfl, rfl, rfl⟩
    have hz : w0.heap.size ≤ w.heap.size + 1 := Nat.le_trans (unhide HM).size (Nat.le_succ _)
    exact (q.aside ⟨w.heap.size + 1, 0, none⟩ _ (unhide HNF) hz).aside ⟨w.heap.size + 1, 1, none⟩ _ (unhide HNF) hz
  · have hnf : ¬ Foot B m (w.heap.size + 1) := fun hf => by have := (unhide HM).foot_lt hf; omega
    have HNF := hide hnf
    clear hnf
    go_enter Tryz.func103, Tryz.ntmps103
    go_wp2
    go_quiet (fail)
    go_wp2
    go_region
    go_wp2
    have hrow : (((w.alloc (.cells #[.int .i64 4, .int .i64 u] 86)).alloc (.cells #[.int .i64 0, .int .i64 0] 86)).drewN (nq + 1)).heap[w.heap.size + 1]? = some (.cells #[.int .i64 0, .int .i64 0] 86 (0, 0)) := second_new w _ _
    obtain ⟨s0, s1, s2⟩ := two_set hrow (.int .i64 5) (.int .i64 (wrap64 (m.now + (32 + r - 1))))
    refine bodyPost_ret (v := .agg #[.int .i64 5, .int .i64 (wrap64 (m.now + (32 + r - 1)))]) (by simp [results, Tryz.results103, go_sem, s0, s1, s2]) rfl ?_
    refine ⟨rfl, ?_⟩
    have q : Mx w0 P (((w.alloc (.cells #[.int .i64 4, .int .i64 u] 86)).alloc (.cells #[.int .i64 0, .int .i64 0] 86)).drewN (nq + 1)) B m := (((unhide HM).alloc _).alloc _).like ⟨rfl, rfl, rfl, rfl⟩
    have hz : w0.heap.size ≤ w.heap.size + 1 := Nat.le_trans (unhide HM).size (Nat.le_succ _)
    exact (q.aside ⟨w.heap.size + 1, 0, none⟩ _ (unhide HNF) hz).aside ⟨w.heap.size + 1, 1, none⟩ _ (unhide HNF) hz
end Go.Proofs.YtonlmklkikbeiaaGreatDoor.Mac

namespace Go.Proofs.YtonlmklkikbeiaaGreatDoor.Mac
open Go.ChangeShapes Go.WideShapes Go.ChangeAt Go.RowKit Bs
set_option linter.unusedVariables false
set_option linter.unusedSimpArgs false
variable {w0 : World} {P : Nat → Prop} {w w' : World} {B : Nat} {m m' : Mc}

/-- several cells of one block are stored into -/
def setMany (w : World) (B : Nat) : List (Nat × Value) → World
  | [] => w
  | p :: l => setMany (w.setCell ⟨B, p.1, none⟩ p.2) B l
def setCs (c : Array Value) : List (Nat × Value) → Array Value
  | [] => c
  | p :: l => setCs (c.setIfInBounds p.1 p.2) l
theorem many_row {t : TypeId} (B : Nat) : ∀ (l : List (Nat × Value)) (u : World) (c : Array Value), u.heap[B]? = some (.cells c t (0, 0)) → (setMany u B l).heap[B]? = some (.cells (setCs c l) t (0, 0))
  | [], u, c, h => h
  | p :: l, u, c, h => many_row B l _ _ (row_set u p.1 p.2 h)
theorem many_other (B : Nat) (k : Nat) (hk : k ≠ B) : ∀ (l : List (Nat × Value)) (u : World), (setMany u B l).heap[k]? = u.heap[k]?
  | [], u => rfl
  | p :: l, u => (many_other B k hk l _).trans (Below.heap_setCell _ _ _ _ hk)
theorem many_size (B : Nat) : ∀ (l : List (Nat × Value)) (u : World), (setMany u B l).heap.size = u.heap.size
  | [], u => rfl
  | p :: l, u => (many_size B l _).trans (by simp [World.setCell])
theorem many_os (B : Nat) : ∀ (l : List (Nat × Value)) (u : World), (setMany u B l).os = u.os ∧ (setMany u B l).tape = u.tape ∧ (setMany u B l).output = u.output
  | [], u => ⟨rfl, rfl, rfl⟩
  | p :: l, u => many_os B l _
theorem Mx.many (h : Mx w0 P w B m) (l : List (Nat × Value)) (hc : setCs m.cells l = m'.cells) (e1 : m'.rx = m.rx) (e2 : m'.tx = m.tx) (e3 : m'.cg = m.cg) (e4 : m'.cf = m.cf) (e5 : m'.cq = m.cq) (e6 : m'.gg = m.gg) (e7 : m'.gf = m.gf) (e8 : m'.gq = m.gq)
    (hmap : w.ownsMap Tryz.prog 38 nbR m'.bm 4 m'.cd) (himg : w.ownsRow 0 5 1 m'.img m'.imgL.length (cells8 m'.imgL)) (hb1 : Foot B m m'.bm ∨ w0.heap.size ≤ m'.bm) (hb2 : ∀ k, m'.img.ownBlock = some k → Foot B m k ∨ w0.heap.size ≤ k)
    (hb3 : m'.bm ≠ B) (hb4 : ∀ k, m'.img.ownBlock = some k → k ≠ B) : Mx w0 P (setMany w B l) B m' := by
  have hk := fun k hk => many_other B k hk l w
  have hf : ∀ k, Foot B m' k → Foot B m k ∨ w0.heap.size ≤ k := fun k hk => by
    rcases hk with rfl | rfl | rfl | rfl | hk
    · exact Or.inl (Or.inl rfl)
    · exact hb1
    · rw [e3]; exact Or.inl (Or.inr (Or.inr (Or.inl rfl)))
    · rw [e6]; exact Or.inl (Or.inr (Or.inr (Or.inr (Or.inl rfl))))
    · exact hb2 k hk
  obtain ⟨o1, o2, o3⟩ := many_os B l w
  exact
  { os := o1.trans h.os, tape := o2.trans h.tape, output := o3.trans h.output, size := by rw [many_size]; exact h.size
    kept := fun k hk' hP => (hk k (by
      rintro rfl
      rcases h.own k (Or.inl rfl) with e | e
      · exact hP e
      · omega)).trans (h.kept k hk' hP)
    own := fun k hk => by
      rcases hf k hk with e | e
      · exact h.own k e
      · exact Or.inr e
    low := h.low, gl := h.gl
    row := by rw [many_row B l w _ h.row, hc]
    map := owns_other hmap (hk _ hb3)
    came := by rw [e3, e1, e4, e5]; exact h.came.other (hk _ h.ne_cg)
    goes := by rw [e6, e2, e7, e8]; exact h.goes.other (hk _ h.ne_gg)
    apart := by rw [e3, e6]; exact h.apart
    image := row_other himg (fun k hk' => hk k (hb4 k hk')) }
/-- where its cache lies is of no matter -/
def Mc.at (m : Mc) (b : Nat) : Mc := { m with bm := b }
/-- all of an attempt is dropped -/
def Mc.drop (m : Mc) : Mc := { m with cd := .map [], st := 0, xid := 0, adr := 0, srv := 0, ws := 0, wu := 0, gr := 0, mask := 0, rou := 0, ims := 0, ends := false, old := 0, vold := 0, over := 0, asked := 0, phase := 0, port := 0, frm := 0, fblk := 0, fwin := 0, since := 0, nxt := 0, sF := 0, sT := 0, sL := ⟨#[]⟩, fs := 0, fu := 0, img := .slice none 0 0, imgL := [] }
def dropL (b : Nat) : List (Nat × Value) := [(0, .map (some b)), (25, .int .i64 0), (26, .int .u32 0), (27, .int .u32 0), (28, .int .u32 0), (29, .int .i64 0), (30, .int .i64 0), (31, .int .i64 0), (32, .int .u32 0), (33, .int .u32 0), (34, .int .u32 0), (35, .bool false), (36, .int .u32 0), (37, .int .u32 0), (38, .int .u32 0), (39, .int .i64 0), (40, .int .i64 0),
  (41, .int .u16 0), (42, .int .u16 0), (43, .int .i64 0), (44, .int .i64 0), (45, .int .i64 0), (46, .int .u16 0), (47, .int .u16 0), (48, .int .u16 0), (49, .string ⟨#[]⟩), (50, .int .i64 0), (51, .int .i64 0), (52, .slice none 0 0)]
theorem Mx.dropped (h : Mx w0 P w B m) : Mx w0 P (setMany (w.alloc (.map #[] 0)) B (dropL w.heap.size)) B (m.drop.at w.heap.size) := by
  refine (h.alloc (.map #[] 0)).many (dropL w.heap.size) (by kernel_rfl) rfl rfl rfl rfl rfl rfl rfl rfl ((World.ownsMap_made _ _ _ _).mono (by decide)) (World.ownsRow_nil _ _ _ _) (Or.inr h.size) (fun k hk => by cases hk) (Nat.ne_of_gt h.lt) (fun k hk => by cases hk)
def leaseL : List (Nat × Value) := [(25, .int .i64 0), (26, .int .u32 0), (27, .int .u32 0), (28, .int .u32 0), (29, .int .i64 0), (30, .int .i64 0), (31, .int .i64 0), (32, .int .u32 0), (33, .int .u32 0), (34, .int .u32 0), (35, .bool false), (36, .int .u32 0), (37, .int .u32 0), (38, .int .u32 0), (39, .int .i64 0)]
def fetchL : List (Nat × Value) := [(41, .int .u16 0), (42, .int .u16 0), (43, .int .i64 0), (44, .int .i64 0), (45, .int .i64 0), (46, .int .u16 0), (47, .int .u16 0), (48, .int .u16 0), (49, .string ⟨#[]⟩), (50, .int .i64 0), (51, .int .i64 0)]
def Mc.drop1 (m : Mc) (b : Nat) : Mc := { m with bm := b, cd := .map [] }
def Mc.drop2 (m : Mc) : Mc := { m with st := 0, xid := 0, adr := 0, srv := 0, ws := 0, wu := 0, gr := 0, mask := 0, rou := 0, ims := 0, ends := false, old := 0, vold := 0, over := 0, asked := 0 }
def Mc.drop4 (m : Mc) : Mc := { m with port := 0, frm := 0, fblk := 0, fwin := 0, since := 0, nxt := 0, sF := 0, sT := 0, sL := ⟨#[]⟩, fs := 0, fu := 0 }
def Mc.drop5 (m : Mc) : Mc := { m with img := .slice none 0 0, imgL := [] }
theorem Mx.drop1 (h : Mx w0 P w B m) : Mx w0 P ((w.alloc (.map #[] 0)).setCell ⟨B, 0, none⟩ (.map (some w.heap.size))) B (m.drop1 w.heap.size) :=
  (h.alloc (.map #[] 0)).many [(0, .map (some w.heap.size))] (by kernel_rfl) rfl rfl rfl rfl rfl rfl rfl rfl ((World.ownsMap_made _ _ _ _).mono (by decide)) (h.alloc _).image (Or.inr h.size) (fun k hk => Or.inl (Or.inr (Or.inr (Or.inr (Or.inr hk))))) (Nat.ne_of_gt h.lt) (fun k hk => h.ne_img hk)
theorem Mx.drop2 (h : Mx w0 P w B m) : Mx w0 P (setMany w B leaseL) B m.drop2 :=
  h.many leaseL (by kernel_rfl) rfl rfl rfl rfl rfl rfl rfl rfl h.map h.image (Or.inl (Or.inr (Or.inl rfl))) (fun k hk => Or.inl (Or.inr (Or.inr (Or.inr (Or.inr hk))))) h.ne_bm (fun k hk => h.ne_img hk)
theorem Mx.drop4 (h : Mx w0 P w B m) : Mx w0 P (setMany w B fetchL) B m.drop4 :=
  h.many fetchL (by kernel_rfl) rfl rfl rfl rfl rfl rfl rfl rfl h.map h.image (Or.inl (Or.inr (Or.inl rfl))) (fun k hk => Or.inl (Or.inr (Or.inr (Or.inr (Or.inr hk))))) h.ne_bm (fun k hk => h.ne_img hk)
theorem Mx.drop5 (h : Mx w0 P w B m) : Mx w0 P (w.setCell ⟨B, 52, none⟩ (.slice none 0 0)) B m.drop5 :=
  h.many [(52, .slice none 0 0)] (by kernel_rfl) rfl rfl rfl rfl rfl rfl rfl rfl h.map (World.ownsRow_nil _ _ _ _) (Or.inl (Or.inr (Or.inl rfl))) (fun k hk => by cases hk) h.ne_bm (fun k hk => by cases hk)
set_option maxHeartbeats 2000000 in
set_option maxRecDepth 10000 in
theorem drop_any (h : Mx w0 P w B m) : Calls Tryz.prog 107 #[.pointer (some ⟨B, 0, none⟩)] w fun ee w' => ee = .returned (.tuple #[]) ∧ ∃ b, Mx w0 P w' B (m.drop.at b) := by
  have hmm := @run_makeMap Tryz.prog
  have c0 := (h.alloc (.map #[] 0)).c0
  have f0 := (h.alloc (.map #[] 0)).free 0
  have HM := hide h
  have hne : B ≠ w.heap.size := Nat.ne_of_lt h.lt
  clear h
  go_enter Tryz.func107, Tryz.ntmps107
  refine wp_seq_k (fun K hK => ?_)
  go_cut [] (fun wc => ∃ b, Hid (Mx w0 P wc B (m.drop1 b)))
  case first =>
    go_wp2
    go_meet
    exact ⟨_, hide (unhide HM).drop1⟩
  case rest =>
    rename World => wA
    obtain ⟨b, H1⟩ := hcut
    clear hmm c0 f0 HM hne
    refine hK _ _ ?_
    clear hK K
    obtain ⟨m1, hm1⟩ : ∃ m1, m1 = m.drop1 b := ⟨_, rfl⟩
    rw [← hm1] at H1
    have HE1 := hide hm1
    clear hm1
    have h2 := (unhide H1).drop2
    simp only [leaseL, setMany] at h2
    have H2 := hide h2
    clear h2
    refine wp_seq_k (fun K hK => ?_)
    go_cut [] (fun wc => Hid (Mx w0 P wc B m1.drop2))
    case first =>
      have c25 := (unhide H1).c25
      have f25 := (unhide H1).free 25
      have c26 := (unhide H1).c26
      have f26 := (unhide H1).free 26
      have c27 := (unhide H1).c27
      have f27 := (unhide H1).free 27
      have c28 := (unhide H1).c28
      have f28 := (unhide H1).free 28
      have c29 := (unhide H1).c29
      have f29 := (unhide H1).free 29
      have c30 := (unhide H1).c30
      have f30 := (unhide H1).free 30
      have c31 := (unhide H1).c31
      have f31 := (unhide H1).free 31
      have c32 := (unhide H1).c32
      have f32 := (unhide H1).free 32
      have c33 := (unhide H1).c33
      have f33 := (unhide H1).free 33
      have c34 := (unhide H1).c34
      have f34 := (unhide H1).free 34
      have c35 := (unhide H1).c35
      have f35 := (unhide H1).free 35
      have c36 := (unhide H1).c36
      have f36 := (unhide H1).free 36
      have c37 := (unhide H1).c37
      have f37 := (unhide H1).free 37
      have c38 := (unhide H1).c38
      have f38 := (unhide H1).free 38
      have c39 := (unhide H1).c39
      have f39 := (unhide H1).free 39
      go_wp2
      go_meet
      exact H2
    case rest =>
      rename World => wB
      clear H1 H2
      have H3 : Hid (Mx w0 P wB B m1.drop2) := hcut
      refine hK _ _ ?_
      clear hcut hK K
      obtain ⟨m2, hm2⟩ : ∃ m2, m2 = m1.drop2 := ⟨_, rfl⟩
      rw [← hm2] at H3
      have HE2 := hide hm2
      clear hm2
      have c40 := (unhide H3).c40
      have f40 := (unhide H3).free 40
      have H4 := hide ((unhide H3).s40 0)
      refine wp_seq_k (fun K hK => ?_)
      go_cut [] (fun wc => Hid (Mx w0 P wc B { m2 with phase := 0 }))
      case first =>
        go_wp2
        go_meet
        exact H4
      case rest =>
        rename World => wC
        clear H3 H4 c40 f40
        have H5 : Hid (Mx w0 P wC B { m2 with phase := 0 }) := hcut
        refine hK _ _ ?_
        clear hcut hK K
        obtain ⟨m3, hm3⟩ : ∃ m3 : Mc, m3 = { m2 with phase := 0 } := ⟨_, rfl⟩
        rw [← hm3] at H5
        have HE3 := hide hm3
        clear hm3
        have h6 := (unhide H5).drop4
        simp only [fetchL, setMany] at h6
        have H6 := hide h6
        clear h6
        refine wp_seq_k (fun K hK => ?_)
        go_cut [] (fun wc => Hid (Mx w0 P wc B m3.drop4))
        case first =>
          have c41 := (unhide H5).c41
          have f41 := (unhide H5).free 41
          have c42 := (unhide H5).c42
          have f42 := (unhide H5).free 42
          have c43 := (unhide H5).c43
          have f43 := (unhide H5).free 43
          have c44 := (unhide H5).c44
          have f44 := (unhide H5).free 44
          have c45 := (unhide H5).c45
          have f45 := (unhide H5).free 45
          have c46 := (unhide H5).c46
          have f46 := (unhide H5).free 46
          have c47 := (unhide H5).c47
          have f47 := (unhide H5).free 47
          have c48 := (unhide H5).c48
          have f48 := (unhide H5).free 48
          have c49 := (unhide H5).c49
          have f49 := (unhide H5).free 49
          have c50 := (unhide H5).c50
          have f50 := (unhide H5).free 50
          have c51 := (unhide H5).c51
          have f51 := (unhide H5).free 51
          go_wp2
          go_meet
          exact H6
        case rest =>
          rename World => wD
          clear H5 H6
          have H7 : Hid (Mx w0 P wD B m3.drop4) := hcut
          refine hK _ _ ?_
          clear hcut hK K
          have c52 := (unhide H7).c52
          have f52 := (unhide H7).free 52
          go_wp2
          go_end0
          refine ⟨rfl, b, ?_⟩
          have q := (unhide H7).drop5
          rw [unhide HE3, unhide HE2, unhide HE1] at q
          exact q
end Go.Proofs.YtonlmklkikbeiaaGreatDoor.Mac

namespace Go.Proofs.YtonlmklkikbeiaaGreatDoor.Mac
open Go.ChangeShapes Go.WideShapes Go.ChangeAt Go.RowKit Bs
set_option linter.unusedVariables false
set_option linter.unusedSimpArgs false
variable {w0 : World} {P : Nat → Prop} {w w' : World} {B : Nat} {m m' : Mc}

/-- an attempt fails -/
def Mc.fail (m : Mc) : Mc := if wrap64 (m.boots + 1) = 3 then { m.drop with boots := 3, phase := 4 } else { m.drop with boots := wrap64 (m.boots + 1) }
set_option maxHeartbeats 1000000 in
theorem fail_any (h : Mx w0 P w B m) : Calls Tryz.prog 102 #[.pointer (some ⟨B, 0, none⟩)] w fun ee w' => ee = .returned (.tuple #[]) ∧ ∃ b, Mx w0 P w' B (m.fail.at b) := by
  have HD := hide (drop_any h)
  clear h
  by_cases hb : wrap64 (m.boots + 1) = 3
  · have HE : Hid (m.fail = { m.drop with boots := 3, phase := 4 }) := hide (by unfold Mc.fail; rw [if_pos hb])
    go_enter Tryz.func102, Tryz.ntmps102
    go_wp2_with fail
    refine (unhide HD).mono ?_
    rintro ee u ⟨rfl, b, hu⟩
    have c24 : u.cell? ⟨B, 24, none⟩ = some (.int .i64 m.boots) := hu.c24
    have f24 := hu.free 24
    have c40 := hu.c40
    have f40 := hu.free 40
    have c24s : (u.setCell ⟨B, 24, none⟩ (.int .i64 3)).cell? ⟨B, 24, none⟩ = some (.int .i64 3) := (hu.s24 3).c24
    have HU := hide hu
    clear hu HD
    go_wp2
    go_end0
    refine ⟨rfl, b, ?_⟩
    rw [unhide HE]
    exact ((unhide HU).s24 3).s40 4
  · have HE : Hid (m.fail = { m.drop with boots := wrap64 (m.boots + 1) }) := hide (by unfold Mc.fail; rw [if_neg hb])
    obtain ⟨x, hx⟩ : ∃ x, x = wrap64 (m.boots + 1) := ⟨_, rfl⟩
    rw [← hx] at hb HE
    have hb3 : (x == 3) = false := by simpa using hb
    have hx2 : wrap64 (m.boots + 1) = x := hx.symm
    clear hb hx
    go_enter Tryz.func102, Tryz.ntmps102
    go_wp2_with fail
    refine (unhide HD).mono ?_
    rintro ee u ⟨rfl, b, hu⟩
    have c24 : u.cell? ⟨B, 24, none⟩ = some (.int .i64 m.boots) := hu.c24
    have f24 := hu.free 24
    have c24s : (u.setCell ⟨B, 24, none⟩ (.int .i64 x)).cell? ⟨B, 24, none⟩ = some (.int .i64 x) := (hu.s24 x).c24
    have HU := hide hu
    clear hu HD
    go_wp2
    go_end0
    refine ⟨rfl, b, ?_⟩
    rw [unhide HE]
    exact (unhide HU).s24 x
/-- what the state waits for an answer to is said, or said again (of Selecting) -/
def Mc.wait1 (m : Mc) : Mc := { m with ws := m.ws + 1, wu := wrap64 (m.now + m.ticks m.ws) }
theorem Mc.Ok.wait1 {m : Mc} (h : m.Ok) (hw : m.ws ≤ 3) : m.wait1.Ok := by
  obtain ⟨a1, a2, a3, a4, a5, a6, a7, a8, a9, a10, a11, a12, a13, a14, a15, a16⟩ := h
  exact ⟨a1, a2, a3, a4, a5, by show 0 ≤ m.ws + 1 ∧ m.ws + 1 ≤ 4; omega, a7, a8, a9, a10, a11, a12, a13, a14, a15, a16⟩
set_option maxHeartbeats 1000000 in
theorem press_one (h : Mx w0 P w B m) (ho : m.Ok) (hst : m.st = 1) (hw : m.ws ≤ 3) : Calls Tryz.prog 64 #[.pointer (some ⟨B, 0, none⟩)] w fun ee w' => ee = .returned (.tuple #[]) ∧ Mx w0 P w' B (m.wait1.say 1 []) := by
  have HM := hide h
  have c29 := h.c29
  have c30 := h.c30
  have HW := hide (waitMore_any h ho m.ws m.wu ho.ws)
  have HO := hide (ho.wait1 hw)
  clear h
  go_enter Tryz.func64, Tryz.ntmps64
  go_wp2_with fail
  refine (unhide HW).mono ?_
  rintro ee u ⟨rfl, hu⟩
  have d29 := hu.c29
  have g29 := hu.free 29
  have d30 := hu.c30
  have g30 := hu.free 30
  have d25 := hu.c25
  rw [hst] at d25
  have HU := hide ((hu.s29 (m.ws + 1)).s30 (wrap64 (m.now + m.ticks m.ws)))
  clear hu HW
  go_wp2_with fail
  refine (say_nil (unhide HU) (unhide HO) 1 (by decide)).mono ?_
  rintro ee u2 ⟨rfl, hu2⟩
  have HU2 := hide hu2
  clear hu2 HU
  go_wp2
  go_end0
  exact ⟨rfl, unhide HU2⟩
end Go.Proofs.YtonlmklkikbeiaaGreatDoor.Mac
