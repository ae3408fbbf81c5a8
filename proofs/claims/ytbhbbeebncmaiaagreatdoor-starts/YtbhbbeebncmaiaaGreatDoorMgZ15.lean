import Derived.Test.YtbhbbeebncmaiaaGreatDoorMgZ14
import Derived.Deep.DeepCutAuto
import Derived.Deep.CutRange
import Derived.Laws.IdiomRangeMap
import Derived.LoopN
namespace Go.Proofs.YtbhbbeebncmaiaaGreatDoor.Mac
open Go.ChangeShapes Go.WideShapes Go.ChangeAt Go.RowKit Bs
set_option linter.unusedVariables false
set_option linter.unusedSimpArgs false
variable {w0 : World} {P : Nat → Prop} {w w' : World} {B : Nat} {m m' : Mc}
def setMany (w : World) (B : Nat) : List (Nat × Value) → World
  | [] => w
  | p :: l => setMany (w.setCell ⟨B, p.1, none⟩ p.2) B l
def setCs (c : Array Value) : List (Nat × Value) → Array Value
  | [] => c
  | p :: l => setCs (c.setIfInBounds p.1 p.2) l
theorem many_row {t : TypeId} (B : Nat) : ∀ (l : List (Nat × Value)) (u : World) (c : Array Value), u.heap[B]? = some (.cells c t (0, 0)) → (setMany u B l).heap[B]? = some (.cells (setCs c l) t (0, 0))
  | [], u, c, h => h
  | p :: l, u, c, h => many_row B l _ _ (row_set u p.1 p.2 h)
theorem many_other (B : Nat) (k : Nat) (hk : k ≠ B) : ∀ (l : List (Nat × Value)) (u : World), (setMany u B l).heap[k]? = u.heap[k]?
  | [], u => rfl
  | p :: l, u => (many_other B k hk l _).trans (Below.heap_setCell _ _ _ _ hk)
theorem many_size (B : Nat) : ∀ (l : List (Nat × Value)) (u : World), (setMany u B l).heap.size = u.heap.size
  | [], u => rfl
  | p :: l, u => (many_size B l _).trans (by simp [World.setCell])
theorem many_os (B : Nat) : ∀ (l : List (Nat × Value)) (u : World), (setMany u B l).os = u.os ∧ (setMany u B l).tape = u.tape ∧ (setMany u B l).output = u.output
  | [], u => ⟨rfl, rfl, rfl⟩
  | p :: l, u => many_os B l _
theorem Mx.many (h : Mx w0 P w B m) (l : List (Nat × Value)) (hc : setCs m.cells l = m'.cells) (e1 : m'.rx = m.rx) (e2 : m'.tx = m.tx) (e3 : m'.cg = m.cg) (e4 : m'.cf = m.cf) (e5 : m'.cq = m.cq) (e6 : m'.gg = m.gg) (e7 : m'.gf = m.gf) (e8 : m'.gq = m.gq)
    (hmap : w.ownsMap Tryz.prog 53 nbR m'.bm 4 m'.cd) (himg : w.ownsRow 0 5 1 m'.img m'.imgL.length (cells8 m'.imgL)) (hb1 : Foot B m m'.bm ∨ w0.heap.size ≤ m'.bm) (hb2 : ∀ k, m'.img.ownBlock = some k → Foot B m k ∨ w0.heap.size ≤ k)
    (hb3 : m'.bm ≠ B) (hb4 : ∀ k, m'.img.ownBlock = some k → k ≠ B) : Mx w0 P (setMany w B l) B m' := by
  have hk := fun k hk => many_other B k hk l w
  have hf : ∀ k, Foot B m' k → Foot B m k ∨ w0.heap.size ≤ k := fun k hk => by
    rcases hk with rfl | rfl | rfl | rfl | hk
    · exact Or.inl (Or.inl rfl)
    · exact hb1
    · rw [e3]; exact Or.inl (Or.inr (Or.inr (Or.inl rfl)))
    · rw [e6]; exact Or.inl (Or.inr (Or.inr (Or.inr (Or.inl rfl))))
    · exact hb2 k hk
  obtain ⟨o1, o2, o3⟩ := many_os B l w
  exact
  { os := o1.trans h.os, tape := o2.trans h.tape, output := o3.trans h.output, size := by rw [many_size]; exact h.size
    kept := fun k hk' hP => (hk k (by
      rintro rfl
      rcases h.own k (Or.inl rfl) with e | e
      · exact hP e
      · omega)).trans (h.kept k hk' hP)
    own := fun k hk => by
      rcases hf k hk with e | e
      · exact h.own k e
      · exact Or.inr e
    low := h.low, gl := h.gl
    row := by rw [many_row B l w _ h.row, hc]
    map := owns_other hmap (hk _ hb3)
    came := by rw [e3, e1, e4, e5]; exact h.came.other (hk _ h.ne_cg)
    goes := by rw [e6, e2, e7, e8]; exact h.goes.other (hk _ h.ne_gg)
    apart := by rw [e3, e6]; exact h.apart
    image := row_other himg (fun k hk' => hk k (hb4 k hk')) }
def Mc.at (m : Mc) (b : Nat) : Mc := { m with bm := b }
def Mc.drop (m : Mc) : Mc := { m with cd := .map [], st := 0, xid := 0, adr := 0, srv := 0, ws := 0, wu := 0, gr := 0, mask := 0, rou := 0, ims := 0, ends := false, old := 0, vold := 0, over := 0, asked := 0, phase := 0, port := 0, frm := 0, fblk := 0, fwin := 0, since := 0, nxt := 0, sF := 0, sT := 0, sL := ⟨#[]⟩, fs := 0, fu := 0, img := .slice none 0 0, imgL := [] }
def leaseL : List (Nat × Value) := [(25, .int .i64 0), (26, .int .u32 0), (27, .int .u32 0), (28, .int .u32 0), (29, .int .i64 0), (30, .int .i64 0), (31, .int .i64 0), (32, .int .u32 0), (33, .int .u32 0), (34, .int .u32 0), (35, .bool false), (36, .int .u32 0), (37, .int .u32 0), (38, .int .u32 0), (39, .int .i64 0)]
def fetchL : List (Nat × Value) := [(41, .int .u16 0), (42, .int .u16 0), (43, .int .i64 0), (44, .int .i64 0), (45, .int .i64 0), (46, .int .u16 0), (47, .int .u16 0), (48, .int .u16 0), (49, .string ⟨#[]⟩), (50, .int .i64 0), (51, .int .i64 0)]
def Mc.drop1 (m : Mc) (b : Nat) : Mc := { m with bm := b, cd := .map [] }
def Mc.drop2 (m : Mc) : Mc := { m with st := 0, xid := 0, adr := 0, srv := 0, ws := 0, wu := 0, gr := 0, mask := 0, rou := 0, ims := 0, ends := false, old := 0, vold := 0, over := 0, asked := 0 }
def Mc.drop4 (m : Mc) : Mc := { m with port := 0, frm := 0, fblk := 0, fwin := 0, since := 0, nxt := 0, sF := 0, sT := 0, sL := ⟨#[]⟩, fs := 0, fu := 0 }
def Mc.drop5 (m : Mc) : Mc := { m with img := .slice none 0 0, imgL := [] }
theorem Mx.drop1 (h : Mx w0 P w B m) : Mx w0 P ((w.alloc (.map #[] 0)).setCell ⟨B, 0, none⟩ (.map (some w.heap.size))) B (m.drop1 w.heap.size) :=
  (h.alloc (.map #[] 0)).many [(0, .map (some w.heap.size))] (by kernel_rfl) rfl rfl rfl rfl rfl rfl rfl rfl ((World.ownsMap_made _ _ _ _).mono (by decide)) (h.alloc _).image (Or.inr h.size) (fun k hk => Or.inl (Or.inr (Or.inr (Or.inr (Or.inr hk))))) (Nat.ne_of_gt h.lt) (fun k hk => h.ne_img hk)
theorem Mx.drop2 (h : Mx w0 P w B m) : Mx w0 P (setMany w B leaseL) B m.drop2 :=
  h.many leaseL (by kernel_rfl) rfl rfl rfl rfl rfl rfl rfl rfl h.map h.image (Or.inl (Or.inr (Or.inl rfl))) (fun k hk => Or.inl (Or.inr (Or.inr (Or.inr (Or.inr hk))))) h.ne_bm (fun k hk => h.ne_img hk)
theorem Mx.drop4 (h : Mx w0 P w B m) : Mx w0 P (setMany w B fetchL) B m.drop4 :=
  h.many fetchL (by kernel_rfl) rfl rfl rfl rfl rfl rfl rfl rfl h.map h.image (Or.inl (Or.inr (Or.inl rfl))) (fun k hk => Or.inl (Or.inr (Or.inr (Or.inr (Or.inr hk))))) h.ne_bm (fun k hk => h.ne_img hk)
theorem Mx.drop5 (h : Mx w0 P w B m) : Mx w0 P (w.setCell ⟨B, 52, none⟩ (.slice none 0 0)) B m.drop5 :=
  h.many [(52, .slice none 0 0)] (by kernel_rfl) rfl rfl rfl rfl rfl rfl rfl rfl h.map (World.ownsRow_nil _ _ _ _) (Or.inl (Or.inr (Or.inl rfl))) (fun k hk => by cases hk) h.ne_bm (fun k hk => by cases hk)
set_option maxHeartbeats 2000000 in
set_option maxRecDepth 10000 in
theorem drop_any (h : Mx w0 P w B m) : Calls Tryz.prog 127 #[.pointer (some ⟨B, 0, none⟩)] w fun ee w' => ee = .returned (.tuple #[]) ∧ ∃ b, Mx w0 P w' B (m.drop.at b) := by
  have hmm := @run_makeMap Tryz.prog
  have c0 := (h.alloc (.map #[] 0)).c0
  have f0 := (h.alloc (.map #[] 0)).free 0
  have HM := hide h
  have hne : B ≠ w.heap.size := Nat.ne_of_lt h.lt
  clear h
  go_enter Tryz.func127, Tryz.ntmps127
  refine wp_seq_k (fun K hK => ?_)
  go_cut [] (fun wc => ∃ b, Hid (Mx w0 P wc B (m.drop1 b)))
  case first =>
    go_wp2
    go_meet
    exact ⟨_, hide (unhide HM).drop1⟩
  case rest =>
    rename World => wA
    obtain ⟨b, H1⟩ := hcut
    clear hmm c0 f0 HM hne
    refine hK _ _ ?_
    clear hK K
    obtain ⟨m1, hm1⟩ : ∃ m1, m1 = m.drop1 b := ⟨_, rfl⟩
    rw [← hm1] at H1
    have HE1 := hide hm1
    clear hm1
    have h2 := (unhide H1).drop2
    simp only [leaseL, setMany] at h2
    have H2 := hide h2
    clear h2
    refine wp_seq_k (fun K hK => ?_)
    go_cut [] (fun wc => Hid (Mx w0 P wc B m1.drop2))
    case first =>
      have c25 := (unhide H1).c25
      have f25 := (unhide H1).free 25
      have c26 := (unhide H1).c26
      have f26 := (unhide H1).free 26
      have c27 := (unhide H1).c27
      have f27 := (unhide H1).free 27
      have c28 := (unhide H1).c28
      have f28 := (unhide H1).free 28
      have c29 := (unhide H1).c29
      have f29 := (unhide H1).free 29
      have c30 := (unhide H1).c30
      have f30 := (unhide H1).free 30
      have c31 := (unhide H1).c31
      have f31 := (unhide H1).free 31
      have c32 := (unhide H1).c32
      have f32 := (unhide H1).free 32
      have c33 := (unhide H1).c33
      have f33 := (unhide H1).free 33
      have c34 := (unhide H1).c34
      have f34 := (unhide H1).free 34
      have c35 := (unhide H1).c35
      have f35 := (unhide H1).free 35
      have c36 := (unhide H1).c36
      have f36 := (unhide H1).free 36
      have c37 := (unhide H1).c37
      have f37 := (unhide H1).free 37
      have c38 := (unhide H1).c38
      have f38 := (unhide H1).free 38
      have c39 := (unhide H1).c39
      have f39 := (unhide H1).free 39
      go_wp2
      go_meet
      exact H2
    case rest =>
      rename World => wB
      clear H1 H2
      have H3 : Hid (Mx w0 P wB B m1.drop2) := hcut
      refine hK _ _ ?_
      clear hcut hK K
      obtain ⟨m2, hm2⟩ : ∃ m2, m2 = m1.drop2 := ⟨_, rfl⟩
      rw [← hm2] at H3
      have HE2 := hide hm2
      clear hm2
      have c40 := (unhide H3).c40
      have f40 := (unhide H3).free 40
      have H4 := hide ((unhide H3).s40 0)
      refine wp_seq_k (fun K hK => ?_)
      go_cut [] (fun wc => Hid (Mx w0 P wc B { m2 with phase := 0 }))
      case first =>
        go_wp2
        go_meet
        exact H4
      case rest =>
        rename World => wC
        clear H3 H4 c40 f40
        have H5 : Hid (Mx w0 P wC B { m2 with phase := 0 }) := hcut
        refine hK _ _ ?_
        clear hcut hK K
        obtain ⟨m3, hm3⟩ : ∃ m3 : Mc, m3 = { m2 with phase := 0 } := ⟨_, rfl⟩
        rw [← hm3] at H5
        have HE3 := hide hm3
        clear hm3
        have h6 := (unhide H5).drop4
        simp only [fetchL, setMany] at h6
        have H6 := hide h6
        clear h6
        refine wp_seq_k (fun K hK => ?_)
        go_cut [] (fun wc => Hid (Mx w0 P wc B m3.drop4))
        case first =>
          have c41 := (unhide H5).c41
          have f41 := (unhide H5).free 41
          have c42 := (unhide H5).c42
          have f42 := (unhide H5).free 42
          have c43 := (unhide H5).c43
          have f43 := (unhide H5).free 43
          have c44 := (unhide H5).c44
          have f44 := (unhide H5).free 44
          have c45 := (unhide H5).c45
          have f45 := (unhide H5).free 45
          have c46 := (unhide H5).c46
          have f46 := (unhide H5).free 46
          have c47 := (unhide H5).c47
          have f47 := (unhide H5).free 47
          have c48 := (unhide H5).c48
          have f48 := (unhide H5).free 48
          have c49 := (unhide H5).c49
          have f49 := (unhide H5).free 49
          have c50 := (unhide H5).c50
          have f50 := (unhide H5).free 50
          have c51 := (unhide H5).c51
          have f51 := (unhide H5).free 51
          go_wp2
          go_meet
          exact H6
        case rest =>
          rename World => wD
          clear H5 H6
          have H7 : Hid (Mx w0 P wD B m3.drop4) := hcut
          refine hK _ _ ?_
          clear hcut hK K
          have c52 := (unhide H7).c52
          have f52 := (unhide H7).free 52
          go_wp2
          go_end0
          refine ⟨rfl, b, ?_⟩
          have q := (unhide H7).drop5
          rw [unhide HE3, unhide HE2, unhide HE1] at q
          exact q
end Go.Proofs.YtbhbbeebncmaiaaGreatDoor.Mac
namespace Go.Proofs.YtbhbbeebncmaiaaGreatDoor.Mac
open Go.ChangeShapes Go.WideShapes Go.ChangeAt Go.RowKit Bs
set_option linter.unusedVariables false
set_option linter.unusedSimpArgs false
variable {w0 : World} {P : Nat → Prop} {w w' : World} {B : Nat} {m m' : Mc}
def Mc.fail (m : Mc) : Mc := if wrap64 (m.boots + 1) = 3 then { m.drop with boots := 3, phase := 4 } else { m.drop with boots := wrap64 (m.boots + 1) }
set_option maxHeartbeats 1000000 in
theorem fail_any (h : Mx w0 P w B m) : Calls Tryz.prog 122 #[.pointer (some ⟨B, 0, none⟩)] w fun ee w' => ee = .returned (.tuple #[]) ∧ ∃ b, Mx w0 P w' B (m.fail.at b) := by
  have HD := hide (drop_any h)
  clear h
  by_cases hb : wrap64 (m.boots + 1) = 3
  · have HE : Hid (m.fail = { m.drop with boots := 3, phase := 4 }) := hide (by unfold Mc.fail; rw [if_pos hb])
    go_enter Tryz.func122, Tryz.ntmps122
    go_wp2_with fail
    refine (unhide HD).mono ?_
    rintro ee u ⟨rfl, b, hu⟩
    have c24 : u.cell? ⟨B, 24, none⟩ = some (.int .i64 m.boots) := hu.c24
    have f24 := hu.free 24
    have c40 := hu.c40
    have f40 := hu.free 40
    have c24s : (u.setCell ⟨B, 24, none⟩ (.int .i64 3)).cell? ⟨B, 24, none⟩ = some (.int .i64 3) := (hu.s24 3).c24
    have HU := hide hu
    clear hu HD
    go_wp2
    go_end0
    refine ⟨rfl, b, ?_⟩
    rw [unhide HE]
    exact ((unhide HU).s24 3).s40 4
  · have HE : Hid (m.fail = { m.drop with boots := wrap64 (m.boots + 1) }) := hide (by unfold Mc.fail; rw [if_neg hb])
    obtain ⟨x, hx⟩ : ∃ x, x = wrap64 (m.boots + 1) := ⟨_, rfl⟩
    rw [← hx] at hb HE
    have hb3 : (x == 3) = false := by simpa using hb
    have hx2 : wrap64 (m.boots + 1) = x := hx.symm
    clear hb hx
    go_enter Tryz.func122, Tryz.ntmps122
    go_wp2_with fail
    refine (unhide HD).mono ?_
    rintro ee u ⟨rfl, b, hu⟩
    have c24 : u.cell? ⟨B, 24, none⟩ = some (.int .i64 m.boots) := hu.c24
    have f24 := hu.free 24
    have c24s : (u.setCell ⟨B, 24, none⟩ (.int .i64 x)).cell? ⟨B, 24, none⟩ = some (.int .i64 x) := (hu.s24 x).c24
    have HU := hide hu
    clear hu HD
    go_wp2
    go_end0
    refine ⟨rfl, b, ?_⟩
    rw [unhide HE]
    exact (unhide HU).s24 x
def Mc.wait1 (m : Mc) : Mc := { m with ws := m.ws + 1, wu := wrap64 (m.now + m.ticks m.ws) }
theorem Mc.Ok.wait1 {m : Mc} (h : m.Ok) (hw : m.ws ≤ 3) : m.wait1.Ok := by
  obtain ⟨a1, a2, a3, a4, a5, a6, a7, a8, a9, a10, a11, a12, a13, a14, a15, a16⟩ := h
  exact ⟨a1, a2, a3, a4, a5, by show 0 ≤ m.ws + 1 ∧ m.ws + 1 ≤ 4; omega, a7, a8, a9, a10, a11, a12, a13, a14, a15, a16⟩
set_option maxHeartbeats 1000000 in
theorem press_one (h : Mx w0 P w B m) (ho : m.Ok) (hst : m.st = 1) (hw : m.ws ≤ 3) : Calls Tryz.prog 84 #[.pointer (some ⟨B, 0, none⟩)] w fun ee w' => ee = .returned (.tuple #[]) ∧ Mx w0 P w' B (m.wait1.say 1 []) := by
  have HM := hide h
  have c29 := h.c29
  have c30 := h.c30
  have HW := hide (waitMore_any h ho m.ws m.wu ho.ws)
  have HO := hide (ho.wait1 hw)
  clear h
  go_enter Tryz.func84, Tryz.ntmps84
  go_wp2_with fail
  refine (unhide HW).mono ?_
  rintro ee u ⟨rfl, hu⟩
  have d29 := hu.c29
  have g29 := hu.free 29
  have d30 := hu.c30
  have g30 := hu.free 30
  have d25 := hu.c25
  rw [hst] at d25
  have HU := hide ((hu.s29 (m.ws + 1)).s30 (wrap64 (m.now + m.ticks m.ws)))
  clear hu HW
  go_wp2_with fail
  refine (say_nil (unhide HU) (unhide HO) 1 (by decide)).mono ?_
  rintro ee u2 ⟨rfl, hu2⟩
  have HU2 := hide hu2
  clear hu2 HU
  go_wp2
  go_end0
  exact ⟨rfl, unhide HU2⟩
end Go.Proofs.YtbhbbeebncmaiaaGreatDoor.Mac
namespace Go.Proofs.YtbhbbeebncmaiaaGreatDoor.Mac
open Go.ChangeShapes Go.WideShapes Go.ChangeAt Go.RowKit Bs
set_option linter.unusedVariables false
set_option linter.unusedSimpArgs false
variable {w0 : World} {P : Nat → Prop} {w w' : World} {B : Nat} {m m' : Mc}
set_option maxHeartbeats 1000000 in
theorem insertion_nil (w : World) : Calls Tryz.prog 178 #[.slice none 0 0, .int .i64 0, .int .i64 0] w fun ee w' => ee = .returned (.tuple #[]) ∧ w' = w := by
  go_enter Tryz.func178, Tryz.ntmps178
  go_wp2
  refine wp_loop_rounds 1 ?_
  rw [rounds_succ]
  go_wp2
  go_end0
  exact ⟨rfl, rfl⟩
set_option maxHeartbeats 1000000 in
theorem pdq_nil (k : Int) (w : World) : Calls Tryz.prog 146 #[.slice none 0 0, .int .i64 0, .int .i64 0, .int .i64 k] w fun ee w' => ee = .returned (.tuple #[]) ∧ w' = w := by
  go_enter Tryz.func146, Tryz.ntmps146
  go_wp2
  refine wp_loop_rounds 1 ?_
  rw [rounds_succ]
  go_wp2_with fail
  refine (insertion_nil _).mono ?_
  rintro ee u ⟨rfl, rfl⟩
  go_wp2
  go_returns
  exact ⟨rfl, rfl⟩
set_option maxHeartbeats 4000000 in
set_option maxRecDepth 100000 in
theorem len64_zero (w : World) : Calls Tryz.prog 188 #[.int .u64 0] w fun ee w' => ∃ k, ee = .returned (.int .i64 k) ∧ w' = w := by
  go_enter Tryz.func188, Tryz.ntmps188
  go_wp2
  go_ret
  exact ⟨_, rfl, rfl⟩
set_option maxHeartbeats 1000000 in
theorem len_zero (w : World) : Calls Tryz.prog 147 #[.int .u64 0] w fun ee w' => ∃ k, ee = .returned (.int .i64 k) ∧ w' = w := by
  have HL := hide (len64_zero w)
  go_enter Tryz.func147, Tryz.ntmps147
  go_wp2_with fail
  refine (unhide HL).mono ?_
  rintro ee u ⟨k, rfl, rfl⟩
  go_wp2
  go_ret
  exact ⟨_, rfl, rfl⟩
set_option maxHeartbeats 1000000 in
theorem sort_nil (w : World) : Calls Tryz.prog 119 #[.slice none 0 0] w fun ee w' => ee = .returned (.tuple #[]) ∧ w' = w := by
  have HL := hide (len_zero w)
  go_enter Tryz.func119, Tryz.ntmps119
  go_wp2_with fail
  refine (unhide HL).mono ?_
  rintro ee u ⟨k, rfl, rfl⟩
  go_wp2_with fail
  refine (pdq_nil k _).mono ?_
  rintro ee u ⟨rfl, rfl⟩
  go_wp2
  go_end0
  exact ⟨rfl, rfl⟩
theorem map_none {b n : Nat} (h : w.ownsMap Tryz.prog 53 nbR b n (.map [])) : ∃ clock, w.heap[b]? = some (.map #[] clock) := by
  obtain ⟨es, c, h1, h2, h3, h4⟩ := h
  have hl := length_read (P := Tryz.prog) (k := 53) (R0 := nbR) es
  have h5 : ((es.toList.map (WideElems.rg Tryz.prog 53 nbR)).foldr DataW.insert []) = [] := by injection h4 with h4; exact h4.symm
  rw [h5] at hl
  have : es = #[] := Array.eq_empty_of_size_eq_zero hl.symm
  subst this
  exact ⟨c, h1⟩
theorem next_none' (w : World) (bm clock : Nat) (ty : TypeId) (hb : w.heap[bm]? = some (.map #[] clock)) : (Instr.next (.pointer (some ⟨w.heap.size, 0, none⟩)) false ty).run Tryz.prog (w.alloc (.mapIter (some bm) clock #[] clock)) = .ok (.tuple #[.bool false]) (w.alloc (.mapIter (some bm) clock #[] clock)) := by
  rcases run_next_map (P := Tryz.prog) w ty bm clock clock #[] #[] clock hb (by simp) (Nat.le_refl _) with h | ⟨e, he, _⟩
  · exact h.2
  · simp [leftOf] at he
set_option maxHeartbeats 1000000 in
theorem forget_none (bm clock : Nat) (now : Int) (w : World) (hb : w.heap[bm]? = some (.map #[] clock)) : Calls Tryz.prog 79 #[.map (some bm), .int .i64 now] w fun ee w' => ee = .returned (.tuple #[]) ∧ Below w.heap.size w w' := by
  have hr := run_range_map (P := Tryz.prog) w 86 53 143 bm #[] clock Tryz.underlying86 hb
  have hn := fun ty => next_none' w bm clock ty hb
  clear hb
  go_enter Tryz.func79, Tryz.ntmps79
  go_wp2
  refine wp_loop_rounds 1 ?_
  rw [rounds_succ]
  go_wp2
  go_end0
  exact ⟨rfl, (Below.refl _ _).alloc (Nat.le_refl _) _⟩
set_option maxHeartbeats 1000000 in
theorem due_none (bm clock : Nat) (now : Int) (w : World) (hb : w.heap[bm]? = some (.map #[] clock)) : Calls Tryz.prog 80 #[.map (some bm), .int .i64 now] w fun ee w' => ee = .returned (.slice none 0 0) ∧ Below w.heap.size w w' := by
  have hr := run_range_map (P := Tryz.prog) w 86 53 143 bm #[] clock Tryz.underlying86 hb
  have hn := fun ty => next_none' w bm clock ty hb
  clear hb
  go_enter Tryz.func80, Tryz.ntmps80
  go_wp2
  refine wp_loop_rounds 1 ?_
  rw [rounds_succ]
  go_wp2_with fail
  refine (sort_nil _).mono ?_
  rintro ee u ⟨rfl, rfl⟩
  go_wp2
  go_ret
  exact ⟨rfl, (Below.refl _ _).alloc (Nat.le_refl _) _⟩
end Go.Proofs.YtbhbbeebncmaiaaGreatDoor.Mac
