import Derived.Test.YtadkcdcdgphhpaaIPWriteH
import Derived.Test.YtadkcdcdgphhpaaUDPWriteR
namespace Go.Proofs.Ytadkcdcdgphhpaa.Ip
open Go.ChangeShapes Go.WideShapes Go.ChangeAt Go.RowKit Bs Rb Wt Arp
set_option linter.unusedVariables false
set_option linter.unusedSimpArgs false

theorem lt_ce {w : World} {b o : Nat} {v : Value} (h : w.cell? ⟨b, o, none⟩ = some v) : b < w.heap.size := by
  by_cases hlt : b < w.heap.size
  · exact hlt
  · have hn : w.heap[b]? = none := by simp; omega
    simp [World.cell?, hn] at h
theorem new2 (u : World) (g : Nat) (a b : Int) (h : g = u.heap.size) : (u.alloc (.cells #[.int .u8 a, .int .u8 b] 5)).cell? ⟨g, 0, none⟩ = some (.int .u8 a) := by
  subst h; rw [cell_of_row _ u.heap.size 0 _ _ (0, 0) (heap_alloc_new u _)]; rfl
theorem new2b (u : World) (g : Nat) (a b : Int) (h : g = u.heap.size) : (u.alloc (.cells #[.int .u8 a, .int .u8 b] 5)).cell? ⟨g, 1, none⟩ = some (.int .u8 b) := by
  subst h; rw [cell_of_row _ u.heap.size 1 _ _ (0, 0) (heap_alloc_new u _)]; rfl

set_option maxHeartbeats 8000000 in
set_option maxRecDepth 10000 in
theorem ref_ok (id ttl pr fr ta : Int) (load : ByteArray) (w : World) (hi : 0 ≤ id ∧ id ≤ 65535) (ht : 0 < ttl ∧ ttl ≤ 255) (hp : 0 ≤ pr ∧ pr ≤ 255) (hf : 0 ≤ fr ∧ fr ≤ 4294967295) (ho : 0 ≤ ta ∧ ta ≤ 4294967295) (hl : load.size ≤ 1480) :
    Calls Try.prog 26 #[.agg #[.int .u16 id, .int .u8 ttl, .int .u8 pr, .int .u32 fr, .int .u32 ta, .string load]] w fun ee w' =>
      ee = .returned (.tuple #[.string ⟨(ipL id ttl pr fr ta load).toArray⟩, .int .i64 0]) ∧ Below w.heap.size w w' := by
  have hne : (ttl == 0) = false := by simp; omega
  have hgt : ¬ (1480 : Int) < (load.size : Int) := by omega
  have hq1 : IntKind.i64.wrap (20 + (load.size : Int)) = 20 + (load.size : Int) := wrap_i64 _ (by omega) (by omega)
  have hq2 : IntKind.i64.wrap id = id := wrap_i64 _ (by omega) (by omega)
  have ht' : 0 ≤ ttl ∧ ttl ≤ 255 := by omega
  obtain ⟨hi0, hi1⟩ := hi
  obtain ⟨hf0, hf1⟩ := hf
  obtain ⟨ho0, ho1⟩ := ho
  obtain ⟨a, ha⟩ : ∃ a : ByteArray, a = ⟨#[69, 0, by8 ((20 + (load.size : Int)) / 256), by8 (20 + (load.size : Int)), by8 (id / 256), by8 id, 64, 0, by8 ttl, by8 pr]⟩ := ⟨_, rfl⟩
  obtain ⟨b, hb⟩ : ∃ b : ByteArray, b = ⟨#[by8 (fr / 256 / 256 / 256), by8 (fr / 256 / 256), by8 (fr / 256), by8 fr]⟩ ++ ⟨#[by8 (ta / 256 / 256 / 256), by8 (ta / 256 / 256), by8 (ta / 256), by8 ta]⟩ := ⟨_, rfl⟩
  have haz : a.size = 10 := by rw [ha]; rfl
  have hbz : b.size = 8 := by rw [hb]; rfl
  have hs1 : (a ++ ⟨#[0, 0]⟩).size = 12 := by rw [ByteArray.size_append, haz]; rfl
  have hs2 : (a ++ ⟨#[0, 0]⟩ ++ b).size = 20 := by rw [ByteArray.size_append, hs1, hbz]
  obtain ⟨c, hc⟩ : ∃ c, c = chk (headL (20 + load.size) id ttl pr fr ta 0) := ⟨_, rfl⟩
  have hcb := chk_bd (headL (20 + load.size) id ttl pr fr ta 0)
  rw [← hc] at hcb
  obtain ⟨hcb0, hcb1⟩ := hcb
  have hs3 : (a ++ ⟨#[by8 (c / 256), by8 c]⟩).size = 12 := by rw [ByteArray.size_append, haz]; rfl
  have hs4 : (a ++ ⟨#[by8 (c / 256), by8 c]⟩ ++ b).size = 20 := by rw [ByteArray.size_append, hs3, hbz]
  have hadd1 := fun u => run_string_add_sum (P := Try.prog) u a ⟨#[0, 0]⟩ (by rw [haz]; show 10 + 2 ≤ _; omega)
  have hadd2 := fun u => run_string_add_sum (P := Try.prog) u (a ++ ⟨#[0, 0]⟩) b (by rw [hs1, hbz]; omega)
  have hadd3 := fun u => run_string_add_sum (P := Try.prog) u a ⟨#[by8 (c / 256), by8 c]⟩ (by rw [haz]; show 10 + 2 ≤ _; omega)
  have hadd4 := fun u => run_string_add_sum (P := Try.prog) u (a ++ ⟨#[by8 (c / 256), by8 c]⟩) b (by rw [hs3, hbz]; omega)
  have hadd5 := fun u => run_string_add_sum (P := Try.prog) u (a ++ ⟨#[by8 (c / 256), by8 c]⟩ ++ b) load (by rw [hs4]; omega)
  have HCk : Hid (∀ u : World, Calls Try.prog 55 #[.string (a ++ ⟨#[0, 0]⟩ ++ b)] u fun ee w' => ee = .returned (.int .i64 c) ∧ ∃ n, w' = u.drewN n) := hide (fun u => by
    have h := Chk.ref_check (a ++ ⟨#[0, 0]⟩ ++ b) u (by rw [hs2]; omega)
    have e : 65535 - Chk.fold (Chk.wsum (a ++ ⟨#[0, 0]⟩ ++ b).data.toList) = c := by
      have e2 : (a ++ ⟨#[0, 0]⟩ ++ b).data.toList = headL (20 + load.size) id ttl pr fr ta 0 := by
        rw [ha, hb, headL, ← big4 fr, ← big4 ta]; simp [ByteArray.data_append, word8, bigL]; decide
      rw [e2, hc]; rfl
    rw [e] at h
    exact h)
  have HFin : Hid (a ++ ⟨#[by8 (c / 256), by8 c]⟩ ++ b ++ load = ⟨(ipL id ttl pr fr ta load).toArray⟩) := hide (by
    rw [ipL, ← hc, ha, hb, headL, ← big4 fr, ← big4 ta]
    apply ByteArray.ext
    apply Array.ext'
    simp [ByteArray.data_append, word8, bigL]
    decide)
  have HA := hide ha
  have HBB := hide hb
  clear hs1 hs2 hs3 hs4 hc ha hb
  go_enter Try.func26, Try.ntmps26
  go_wp2
  go_cut [4] (fun s4 wc => s4 = .string ⟨#[69, 0, by8 ((20 + (load.size : Int)) / 256), by8 (20 + (load.size : Int)), by8 (id / 256), by8 id, 64, 0, by8 ttl, by8 pr]⟩ ∧ Below (w.heap.size + 1) (w.alloc (.cells #[.int .u16 id, .int .u8 ttl, .int .u8 pr, .int .u32 fr, .int .u32 ta, .string load] 43)) wc)
  case first =>
    clear hadd1 hadd2 hadd3 hadd4 hadd5 HCk HFin
    refine wp_region_held_drew (S := fun u => Below (w.heap.size + 1) (w.alloc (.cells #[.int .u16 id, .int .u8 ttl, .int .u8 pr, .int .u32 fr, .int .u32 ta, .string load] 43)) u) (by kernel_rfl) ((Below.refl _ _).drew) (fun hB0 => ?_)
    refine wpAnyH_take (i := 0) (v := .pointer (some ⟨w.heap.size, 5, none⟩)) rfl (by kernel_rfl) (by kernel_rfl) (by kernel_rfl) (fun _ _ _ h => h) (Or.inl ⟨by rfl, ?_⟩) hB0 ?_
    · intro u hu; go_simp
    try simp only [Act.put, List.setIfInBounds_toArray, List.set_cons_zero, List.set_cons_succ]
    refine wpAnyH_take (i := 1) (v := .string load) rfl (by kernel_rfl) (by kernel_rfl) (by kernel_rfl) (fun _ _ _ h => h) (Or.inl ⟨by rfl, ?_⟩) hB0 ?_
    · intro u hu; have hcc := six_cells hu; go_simp
    try simp only [Act.put, List.setIfInBounds_toArray, List.set_cons_zero, List.set_cons_succ]
    refine wpAnyH_take (i := 2) (v := .int .i64 load.size) rfl (by kernel_rfl) (by kernel_rfl) (by kernel_rfl) (fun _ _ _ h => h) (Or.inl ⟨by rfl, ?_⟩) hB0 ?_
    · intro u hu; go_simp
    try simp only [Act.put, List.setIfInBounds_toArray, List.set_cons_zero, List.set_cons_succ]
    refine wpAnyH_take (i := 3) (v := .int .i64 (20 + (load.size : Int))) rfl (by kernel_rfl) (by kernel_rfl) (by kernel_rfl) (fun _ _ _ h => h) (Or.inl ⟨by rfl, ?_⟩) hB0 ?_
    · intro u hu; go_simp
    try simp only [Act.put, List.setIfInBounds_toArray, List.set_cons_zero, List.set_cons_succ]
    refine wpAnyH_take (i := 6) (v := .pointer (some ⟨w.heap.size, 0, none⟩)) rfl (by kernel_rfl) (by kernel_rfl) (by kernel_rfl) (fun _ _ _ h => h) (Or.inl ⟨by rfl, ?_⟩) hB0 ?_
    · intro u hu; go_simp
    try simp only [Act.put, List.setIfInBounds_toArray, List.set_cons_zero, List.set_cons_succ]
    refine wpAnyH_take (i := 7) (v := .int .u16 id) rfl (by kernel_rfl) (by kernel_rfl) (by kernel_rfl) (fun _ _ _ h => h) (Or.inl ⟨by rfl, ?_⟩) hB0 ?_
    · intro u hu; have hcc := six_cells hu; go_simp
    try simp only [Act.put, List.setIfInBounds_toArray, List.set_cons_zero, List.set_cons_succ]
    refine wpAnyH_take (i := 8) (v := .int .i64 id) rfl (by kernel_rfl) (by kernel_rfl) (by kernel_rfl) (fun _ _ _ h => h) (Or.inl ⟨by rfl, ?_⟩) hB0 ?_
    · intro u hu; go_simp
    try simp only [Act.put, List.setIfInBounds_toArray, List.set_cons_zero, List.set_cons_succ]
    refine wpAnyH_take (i := 12) (v := .pointer (some ⟨w.heap.size, 1, none⟩)) rfl (by kernel_rfl) (by kernel_rfl) (by kernel_rfl) (fun _ _ _ h => h) (Or.inl ⟨by rfl, ?_⟩) hB0 ?_
    · intro u hu; go_simp
    try simp only [Act.put, List.setIfInBounds_toArray, List.set_cons_zero, List.set_cons_succ]
    refine wpAnyH_take (i := 13) (v := .int .u8 ttl) rfl (by kernel_rfl) (by kernel_rfl) (by kernel_rfl) (fun _ _ _ h => h) (Or.inl ⟨by rfl, ?_⟩) hB0 ?_
    · intro u hu; have hcc := six_cells hu; go_simp
    try simp only [Act.put, List.setIfInBounds_toArray, List.set_cons_zero, List.set_cons_succ]
    refine wpAnyH_take (i := 14) (v := .pointer (some ⟨w.heap.size, 2, none⟩)) rfl (by kernel_rfl) (by kernel_rfl) (by kernel_rfl) (fun _ _ _ h => h) (Or.inl ⟨by rfl, ?_⟩) hB0 ?_
    · intro u hu; go_simp
    try simp only [Act.put, List.setIfInBounds_toArray, List.set_cons_zero, List.set_cons_succ]
    refine wpAnyH_take (i := 15) (v := .int .u8 pr) rfl (by kernel_rfl) (by kernel_rfl) (by kernel_rfl) (fun _ _ _ h => h) (Or.inl ⟨by rfl, ?_⟩) hB0 ?_
    · intro u hu; have hcc := six_cells hu; go_simp
    try simp only [Act.put, List.setIfInBounds_toArray, List.set_cons_zero, List.set_cons_succ]
    refine wpAnyH_ready (rs := [4, 16]) (by kernel_rfl) (by simp) ?_
    refine AllReadyH.cons rfl (fun K hK => ?_) (AllReadyH.cons rfl (fun K hK => ?_) AllReadyH.nil)
    · go_simp
      refine (big2_lit _ _ (by omega) (by omega)).mono ?_
      rintro ee u1 ⟨rfl, hb1⟩
      have hB1 : Below (w.heap.size + 1) (w.alloc (.cells #[.int .u16 id, .int .u8 ttl, .int .u8 pr, .int .u32 fr, .int .u32 ta, .string load] 43)) u1 := hB0.trans (hb1.mono (sizes hB0))
      refine hK.out _ _ hB1 (fun _ => ?_)
      clear hK K hb1
      try simp only [Act.put, List.setIfInBounds_toArray, List.set_cons_zero, List.set_cons_succ]
      refine wpAnyH_take (i := 5) (v := .string ({ data := #[69, 0] } ++ ⟨#[by8 ((20 + (load.size : Int)) / 256), by8 (20 + (load.size : Int))]⟩ : ByteArray)) rfl (by kernel_rfl) (by kernel_rfl) (by kernel_rfl) (fun _ _ _ h => h) (Or.inl ⟨by rfl, ?_⟩) hB1 ?_
      · intro u hu; go_simp
      try simp only [Act.put, List.setIfInBounds_toArray, List.set_cons_zero, List.set_cons_succ]
      refine wpAnyH_ready (rs := [9, 16]) (by kernel_rfl) (by simp) ?_
      refine AllReadyH.cons rfl (fun K hK => ?_) (AllReadyH.cons rfl (fun K hK => ?_) AllReadyH.nil)
      · go_simp
        refine (big2_lit _ _ (by omega) (by omega)).mono ?_
        rintro ee u2 ⟨rfl, hb2⟩
        have hB2 : Below (w.heap.size + 1) (w.alloc (.cells #[.int .u16 id, .int .u8 ttl, .int .u8 pr, .int .u32 fr, .int .u32 ta, .string load] 43)) u2 := hB1.trans (hb2.mono (sizes hB1))
        refine hK.out _ _ hB2 (fun _ => ?_)
        clear hK K hb2
        try simp only [Act.put, List.setIfInBounds_toArray, List.set_cons_zero, List.set_cons_succ]
        refine wpAnyH_take (i := 10) (v := .string (({ data := #[69, 0] } ++ ⟨#[by8 ((20 + (load.size : Int)) / 256), by8 (20 + (load.size : Int))]⟩ : ByteArray) ++ ⟨#[by8 (id / 256), by8 id]⟩ : ByteArray)) rfl (by kernel_rfl) (by kernel_rfl) (by kernel_rfl) (fun _ _ _ h => h) (Or.inl ⟨by rfl, ?_⟩) hB2 ?_
        · intro u hu; go_simp
        try simp only [Act.put, List.setIfInBounds_toArray, List.set_cons_zero, List.set_cons_succ]
        refine wpAnyH_take (i := 11) (v := .string ((({ data := #[69, 0] } ++ ⟨#[by8 ((20 + (load.size : Int)) / 256), by8 (20 + (load.size : Int))]⟩ : ByteArray) ++ ⟨#[by8 (id / 256), by8 id]⟩ : ByteArray) ++ { data := #[64, 0] } : ByteArray)) rfl (by kernel_rfl) (by kernel_rfl) (by kernel_rfl) (fun _ _ _ h => h) (Or.inl ⟨by rfl, ?_⟩) hB2 ?_
        · intro u hu; go_simp
        try simp only [Act.put, List.setIfInBounds_toArray, List.set_cons_zero, List.set_cons_succ]
        refine wpAnyH_ready (rs := [16]) (by kernel_rfl) (by simp) ?_
        refine AllReadyH.cons rfl (fun K hK => ?_) AllReadyH.nil
        · go_simp
          have hB3 : Below (w.heap.size + 1) (w.alloc (.cells #[.int .u16 id, .int .u8 ttl, .int .u8 pr, .int .u32 fr, .int .u32 ta, .string load] 43)) (u2.alloc (.cells #[.int .u8 ttl, .int .u8 pr] 5)) := hB2.alloc (sizes hB2) _
          have ca3 : (u2.alloc (.cells #[.int .u8 ttl, .int .u8 pr] 5)).cell? ⟨u2.heap.size, 0, none⟩ = some (.int .u8 ttl) := new2 _ _ _ _ rfl
          have cb3 : (u2.alloc (.cells #[.int .u8 ttl, .int .u8 pr] 5)).cell? ⟨u2.heap.size, 1, none⟩ = some (.int .u8 pr) := new2b _ _ _ _ rfl
          refine hK.out _ _ hB3 (fun _ => ?_)
          clear hK K
          try simp only [Act.put, List.setIfInBounds_toArray, List.set_cons_zero, List.set_cons_succ]
          refine wpAnyH_ready (rs := [17]) (by kernel_rfl) (by simp) ?_
          refine AllReadyH.cons rfl (fun K hK => ?_) AllReadyH.nil
          · have hv4 := conv2 _ (u2.heap.size) ttl pr ht' hp ca3 cb3
            go_simp
            refine hK.out _ _ hB3 (fun _ => ?_)
            clear hK K hv4
            try simp only [Act.put, List.setIfInBounds_toArray, List.set_cons_zero, List.set_cons_succ]
            refine wpAnyH_take (i := 18) (v := .string (((({ data := #[69, 0] } ++ ⟨#[by8 ((20 + (load.size : Int)) / 256), by8 (20 + (load.size : Int))]⟩ : ByteArray) ++ ⟨#[by8 (id / 256), by8 id]⟩ : ByteArray) ++ { data := #[64, 0] } : ByteArray) ++ { data := #[by8 ttl, by8 pr] } : ByteArray)) rfl (by kernel_rfl) (by kernel_rfl) (by kernel_rfl) (fun _ _ _ h => h) (Or.inl ⟨by rfl, ?_⟩) hB3 ?_
            · intro u hu; go_simp
            try simp only [Act.put, List.setIfInBounds_toArray, List.set_cons_zero, List.set_cons_succ]
            refine wpAnyH_ready (rs := [19]) (by kernel_rfl) (by simp) ?_
            refine AllReadyH.cons rfl (fun K hK => ?_) AllReadyH.nil
            · go_simp
              refine hK.out _ _ hB3 (fun _ => ?_)
              clear hK K
              try simp only [Act.put, List.setIfInBounds_toArray, List.set_cons_zero, List.set_cons_succ]
              refine wpAnyH_done (by kernel_rfl) ?_ _
              go_wp2
              go_meet
              exact ⟨congrArg Value.string (ByteArray.ext (Array.ext' (by simp [ByteArray.data_append]))), hB3⟩
      · go_simp
        have hB6 : Below (w.heap.size + 1) (w.alloc (.cells #[.int .u16 id, .int .u8 ttl, .int .u8 pr, .int .u32 fr, .int .u32 ta, .string load] 43)) (u1.alloc (.cells #[.int .u8 ttl, .int .u8 pr] 5)) := hB1.alloc (sizes hB1) _
        have ca6 : (u1.alloc (.cells #[.int .u8 ttl, .int .u8 pr] 5)).cell? ⟨u1.heap.size, 0, none⟩ = some (.int .u8 ttl) := new2 _ _ _ _ rfl
        have cb6 : (u1.alloc (.cells #[.int .u8 ttl, .int .u8 pr] 5)).cell? ⟨u1.heap.size, 1, none⟩ = some (.int .u8 pr) := new2b _ _ _ _ rfl
        refine hK.out _ _ hB6 (fun _ => ?_)
        clear hK K
        try simp only [Act.put, List.setIfInBounds_toArray, List.set_cons_zero, List.set_cons_succ]
        refine wpAnyH_ready (rs := [9, 17]) (by kernel_rfl) (by simp) ?_
        refine AllReadyH.cons rfl (fun K hK => ?_) (AllReadyH.cons rfl (fun K hK => ?_) AllReadyH.nil)
        · go_simp
          refine (big2_lit _ _ (by omega) (by omega)).mono ?_
          rintro ee u7 ⟨rfl, hb7⟩
          have hB7 : Below (w.heap.size + 1) (w.alloc (.cells #[.int .u16 id, .int .u8 ttl, .int .u8 pr, .int .u32 fr, .int .u32 ta, .string load] 43)) u7 := hB6.trans (hb7.mono (sizes hB6))
          have ca7 := (hb7.cell (p := ⟨u1.heap.size, 0, none⟩) (lt_ce ca6)).trans ca6
          have cb7 := (hb7.cell (p := ⟨u1.heap.size, 1, none⟩) (lt_ce cb6)).trans cb6
          refine hK.out _ _ hB7 (fun _ => ?_)
          clear hK K hb7
          try simp only [Act.put, List.setIfInBounds_toArray, List.set_cons_zero, List.set_cons_succ]
          refine wpAnyH_take (i := 10) (v := .string (({ data := #[69, 0] } ++ ⟨#[by8 ((20 + (load.size : Int)) / 256), by8 (20 + (load.size : Int))]⟩ : ByteArray) ++ ⟨#[by8 (id / 256), by8 id]⟩ : ByteArray)) rfl (by kernel_rfl) (by kernel_rfl) (by kernel_rfl) (fun _ _ _ h => h) (Or.inl ⟨by rfl, ?_⟩) hB7 ?_
          · intro u hu; go_simp
          try simp only [Act.put, List.setIfInBounds_toArray, List.set_cons_zero, List.set_cons_succ]
          refine wpAnyH_take (i := 11) (v := .string ((({ data := #[69, 0] } ++ ⟨#[by8 ((20 + (load.size : Int)) / 256), by8 (20 + (load.size : Int))]⟩ : ByteArray) ++ ⟨#[by8 (id / 256), by8 id]⟩ : ByteArray) ++ { data := #[64, 0] } : ByteArray)) rfl (by kernel_rfl) (by kernel_rfl) (by kernel_rfl) (fun _ _ _ h => h) (Or.inl ⟨by rfl, ?_⟩) hB7 ?_
          · intro u hu; go_simp
          try simp only [Act.put, List.setIfInBounds_toArray, List.set_cons_zero, List.set_cons_succ]
          refine wpAnyH_ready (rs := [17]) (by kernel_rfl) (by simp) ?_
          refine AllReadyH.cons rfl (fun K hK => ?_) AllReadyH.nil
          · have hv8 := conv2 _ (u1.heap.size) ttl pr ht' hp ca7 cb7
            go_simp
            refine hK.out _ _ hB7 (fun _ => ?_)
            clear hK K hv8
            try simp only [Act.put, List.setIfInBounds_toArray, List.set_cons_zero, List.set_cons_succ]
            refine wpAnyH_take (i := 18) (v := .string (((({ data := #[69, 0] } ++ ⟨#[by8 ((20 + (load.size : Int)) / 256), by8 (20 + (load.size : Int))]⟩ : ByteArray) ++ ⟨#[by8 (id / 256), by8 id]⟩ : ByteArray) ++ { data := #[64, 0] } : ByteArray) ++ { data := #[by8 ttl, by8 pr] } : ByteArray)) rfl (by kernel_rfl) (by kernel_rfl) (by kernel_rfl) (fun _ _ _ h => h) (Or.inl ⟨by rfl, ?_⟩) hB7 ?_
            · intro u hu; go_simp
            try simp only [Act.put, List.setIfInBounds_toArray, List.set_cons_zero, List.set_cons_succ]
            refine wpAnyH_ready (rs := [19]) (by kernel_rfl) (by simp) ?_
            refine AllReadyH.cons rfl (fun K hK => ?_) AllReadyH.nil
            · go_simp
              refine hK.out _ _ hB7 (fun _ => ?_)
              clear hK K
              try simp only [Act.put, List.setIfInBounds_toArray, List.set_cons_zero, List.set_cons_succ]
              refine wpAnyH_done (by kernel_rfl) ?_ _
              go_wp2
              go_meet
              exact ⟨congrArg Value.string (ByteArray.ext (Array.ext' (by simp [ByteArray.data_append]))), hB7⟩
        · have hv10 := conv2 _ (u1.heap.size) ttl pr ht' hp ca6 cb6
          go_simp
          refine hK.out _ _ hB6 (fun _ => ?_)
          clear hK K hv10
          try simp only [Act.put, List.setIfInBounds_toArray, List.set_cons_zero, List.set_cons_succ]
          refine wpAnyH_ready (rs := [9]) (by kernel_rfl) (by simp) ?_
          refine AllReadyH.cons rfl (fun K hK => ?_) AllReadyH.nil
          · go_simp
            refine (big2_lit _ _ (by omega) (by omega)).mono ?_
            rintro ee u11 ⟨rfl, hb11⟩
            have hB11 : Below (w.heap.size + 1) (w.alloc (.cells #[.int .u16 id, .int .u8 ttl, .int .u8 pr, .int .u32 fr, .int .u32 ta, .string load] 43)) u11 := hB6.trans (hb11.mono (sizes hB6))
            have ca11 := (hb11.cell (p := ⟨u1.heap.size, 0, none⟩) (lt_ce ca6)).trans ca6
            have cb11 := (hb11.cell (p := ⟨u1.heap.size, 1, none⟩) (lt_ce cb6)).trans cb6
            refine hK.out _ _ hB11 (fun _ => ?_)
            clear hK K hb11
            try simp only [Act.put, List.setIfInBounds_toArray, List.set_cons_zero, List.set_cons_succ]
            refine wpAnyH_take (i := 10) (v := .string (({ data := #[69, 0] } ++ ⟨#[by8 ((20 + (load.size : Int)) / 256), by8 (20 + (load.size : Int))]⟩ : ByteArray) ++ ⟨#[by8 (id / 256), by8 id]⟩ : ByteArray)) rfl (by kernel_rfl) (by kernel_rfl) (by kernel_rfl) (fun _ _ _ h => h) (Or.inl ⟨by rfl, ?_⟩) hB11 ?_
            · intro u hu; go_simp
            try simp only [Act.put, List.setIfInBounds_toArray, List.set_cons_zero, List.set_cons_succ]
            refine wpAnyH_take (i := 11) (v := .string ((({ data := #[69, 0] } ++ ⟨#[by8 ((20 + (load.size : Int)) / 256), by8 (20 + (load.size : Int))]⟩ : ByteArray) ++ ⟨#[by8 (id / 256), by8 id]⟩ : ByteArray) ++ { data := #[64, 0] } : ByteArray)) rfl (by kernel_rfl) (by kernel_rfl) (by kernel_rfl) (fun _ _ _ h => h) (Or.inl ⟨by rfl, ?_⟩) hB11 ?_
            · intro u hu; go_simp
            try simp only [Act.put, List.setIfInBounds_toArray, List.set_cons_zero, List.set_cons_succ]
            refine wpAnyH_take (i := 18) (v := .string (((({ data := #[69, 0] } ++ ⟨#[by8 ((20 + (load.size : Int)) / 256), by8 (20 + (load.size : Int))]⟩ : ByteArray) ++ ⟨#[by8 (id / 256), by8 id]⟩ : ByteArray) ++ { data := #[64, 0] } : ByteArray) ++ { data := #[by8 ttl, by8 pr] } : ByteArray)) rfl (by kernel_rfl) (by kernel_rfl) (by kernel_rfl) (fun _ _ _ h => h) (Or.inl ⟨by rfl, ?_⟩) hB11 ?_
            · intro u hu; go_simp
            try simp only [Act.put, List.setIfInBounds_toArray, List.set_cons_zero, List.set_cons_succ]
            refine wpAnyH_ready (rs := [19]) (by kernel_rfl) (by simp) ?_
            refine AllReadyH.cons rfl (fun K hK => ?_) AllReadyH.nil
            · go_simp
              refine hK.out _ _ hB11 (fun _ => ?_)
              clear hK K
              try simp only [Act.put, List.setIfInBounds_toArray, List.set_cons_zero, List.set_cons_succ]
              refine wpAnyH_done (by kernel_rfl) ?_ _
              go_wp2
              go_meet
              exact ⟨congrArg Value.string (ByteArray.ext (Array.ext' (by simp [ByteArray.data_append]))), hB11⟩
    · go_simp
      have hB13 : Below (w.heap.size + 1) (w.alloc (.cells #[.int .u16 id, .int .u8 ttl, .int .u8 pr, .int .u32 fr, .int .u32 ta, .string load] 43)) (((w.alloc (.cells #[.int .u16 id, .int .u8 ttl, .int .u8 pr, .int .u32 fr, .int .u32 ta, .string load] 43)).alloc (.cells #[.int .u8 ttl, .int .u8 pr] 5)).drew) := ((Below.refl _ _).alloc (by simp) _).drew
      have ca13 : (((w.alloc (.cells #[.int .u16 id, .int .u8 ttl, .int .u8 pr, .int .u32 fr, .int .u32 ta, .string load] 43)).alloc (.cells #[.int .u8 ttl, .int .u8 pr] 5)).drew).cell? ⟨w.heap.size + 1, 0, none⟩ = some (.int .u8 ttl) := new2 _ _ _ _ (by simp)
      have cb13 : (((w.alloc (.cells #[.int .u16 id, .int .u8 ttl, .int .u8 pr, .int .u32 fr, .int .u32 ta, .string load] 43)).alloc (.cells #[.int .u8 ttl, .int .u8 pr] 5)).drew).cell? ⟨w.heap.size + 1, 1, none⟩ = some (.int .u8 pr) := new2b _ _ _ _ (by simp)
      refine hK.out _ _ hB13 (fun _ => ?_)
      clear hK K
      try simp only [Act.put, List.setIfInBounds_toArray, List.set_cons_zero, List.set_cons_succ]
      refine wpAnyH_ready (rs := [4, 17]) (by kernel_rfl) (by simp) ?_
      refine AllReadyH.cons rfl (fun K hK => ?_) (AllReadyH.cons rfl (fun K hK => ?_) AllReadyH.nil)
      · go_simp
        refine (big2_lit _ _ (by omega) (by omega)).mono ?_
        rintro ee u14 ⟨rfl, hb14⟩
        have hB14 : Below (w.heap.size + 1) (w.alloc (.cells #[.int .u16 id, .int .u8 ttl, .int .u8 pr, .int .u32 fr, .int .u32 ta, .string load] 43)) u14 := hB13.trans (hb14.mono (sizes hB13))
        have ca14 := (hb14.cell (p := ⟨w.heap.size + 1, 0, none⟩) (lt_ce ca13)).trans ca13
        have cb14 := (hb14.cell (p := ⟨w.heap.size + 1, 1, none⟩) (lt_ce cb13)).trans cb13
        refine hK.out _ _ hB14 (fun _ => ?_)
        clear hK K hb14
        try simp only [Act.put, List.setIfInBounds_toArray, List.set_cons_zero, List.set_cons_succ]
        refine wpAnyH_take (i := 5) (v := .string ({ data := #[69, 0] } ++ ⟨#[by8 ((20 + (load.size : Int)) / 256), by8 (20 + (load.size : Int))]⟩ : ByteArray)) rfl (by kernel_rfl) (by kernel_rfl) (by kernel_rfl) (fun _ _ _ h => h) (Or.inl ⟨by rfl, ?_⟩) hB14 ?_
        · intro u hu; go_simp
        try simp only [Act.put, List.setIfInBounds_toArray, List.set_cons_zero, List.set_cons_succ]
        refine wpAnyH_ready (rs := [9, 17]) (by kernel_rfl) (by simp) ?_
        refine AllReadyH.cons rfl (fun K hK => ?_) (AllReadyH.cons rfl (fun K hK => ?_) AllReadyH.nil)
        · go_simp
          refine (big2_lit _ _ (by omega) (by omega)).mono ?_
          rintro ee u15 ⟨rfl, hb15⟩
          have hB15 : Below (w.heap.size + 1) (w.alloc (.cells #[.int .u16 id, .int .u8 ttl, .int .u8 pr, .int .u32 fr, .int .u32 ta, .string load] 43)) u15 := hB14.trans (hb15.mono (sizes hB14))
          have ca15 := (hb15.cell (p := ⟨w.heap.size + 1, 0, none⟩) (lt_ce ca14)).trans ca14
          have cb15 := (hb15.cell (p := ⟨w.heap.size + 1, 1, none⟩) (lt_ce cb14)).trans cb14
          refine hK.out _ _ hB15 (fun _ => ?_)
          clear hK K hb15
          try simp only [Act.put, List.setIfInBounds_toArray, List.set_cons_zero, List.set_cons_succ]
          refine wpAnyH_take (i := 10) (v := .string (({ data := #[69, 0] } ++ ⟨#[by8 ((20 + (load.size : Int)) / 256), by8 (20 + (load.size : Int))]⟩ : ByteArray) ++ ⟨#[by8 (id / 256), by8 id]⟩ : ByteArray)) rfl (by kernel_rfl) (by kernel_rfl) (by kernel_rfl) (fun _ _ _ h => h) (Or.inl ⟨by rfl, ?_⟩) hB15 ?_
          · intro u hu; go_simp
          try simp only [Act.put, List.setIfInBounds_toArray, List.set_cons_zero, List.set_cons_succ]
          refine wpAnyH_take (i := 11) (v := .string ((({ data := #[69, 0] } ++ ⟨#[by8 ((20 + (load.size : Int)) / 256), by8 (20 + (load.size : Int))]⟩ : ByteArray) ++ ⟨#[by8 (id / 256), by8 id]⟩ : ByteArray) ++ { data := #[64, 0] } : ByteArray)) rfl (by kernel_rfl) (by kernel_rfl) (by kernel_rfl) (fun _ _ _ h => h) (Or.inl ⟨by rfl, ?_⟩) hB15 ?_
          · intro u hu; go_simp
          try simp only [Act.put, List.setIfInBounds_toArray, List.set_cons_zero, List.set_cons_succ]
          refine wpAnyH_ready (rs := [17]) (by kernel_rfl) (by simp) ?_
          refine AllReadyH.cons rfl (fun K hK => ?_) AllReadyH.nil
          · have hv16 := conv2 _ (w.heap.size + 1) ttl pr ht' hp ca15 cb15
            go_simp
            refine hK.out _ _ hB15 (fun _ => ?_)
            clear hK K hv16
            try simp only [Act.put, List.setIfInBounds_toArray, List.set_cons_zero, List.set_cons_succ]
            refine wpAnyH_take (i := 18) (v := .string (((({ data := #[69, 0] } ++ ⟨#[by8 ((20 + (load.size : Int)) / 256), by8 (20 + (load.size : Int))]⟩ : ByteArray) ++ ⟨#[by8 (id / 256), by8 id]⟩ : ByteArray) ++ { data := #[64, 0] } : ByteArray) ++ { data := #[by8 ttl, by8 pr] } : ByteArray)) rfl (by kernel_rfl) (by kernel_rfl) (by kernel_rfl) (fun _ _ _ h => h) (Or.inl ⟨by rfl, ?_⟩) hB15 ?_
            · intro u hu; go_simp
            try simp only [Act.put, List.setIfInBounds_toArray, List.set_cons_zero, List.set_cons_succ]
            refine wpAnyH_ready (rs := [19]) (by kernel_rfl) (by simp) ?_
            refine AllReadyH.cons rfl (fun K hK => ?_) AllReadyH.nil
            · go_simp
              refine hK.out _ _ hB15 (fun _ => ?_)
              clear hK K
              try simp only [Act.put, List.setIfInBounds_toArray, List.set_cons_zero, List.set_cons_succ]
              refine wpAnyH_done (by kernel_rfl) ?_ _
              go_wp2
              go_meet
              exact ⟨congrArg Value.string (ByteArray.ext (Array.ext' (by simp [ByteArray.data_append]))), hB15⟩
        · have hv18 := conv2 _ (w.heap.size + 1) ttl pr ht' hp ca14 cb14
          go_simp
          refine hK.out _ _ hB14 (fun _ => ?_)
          clear hK K hv18
          try simp only [Act.put, List.setIfInBounds_toArray, List.set_cons_zero, List.set_cons_succ]
          refine wpAnyH_ready (rs := [9]) (by kernel_rfl) (by simp) ?_
          refine AllReadyH.cons rfl (fun K hK => ?_) AllReadyH.nil
          · go_simp
            refine (big2_lit _ _ (by omega) (by omega)).mono ?_
            rintro ee u19 ⟨rfl, hb19⟩
            have hB19 : Below (w.heap.size + 1) (w.alloc (.cells #[.int .u16 id, .int .u8 ttl, .int .u8 pr, .int .u32 fr, .int .u32 ta, .string load] 43)) u19 := hB14.trans (hb19.mono (sizes hB14))
            have ca19 := (hb19.cell (p := ⟨w.heap.size + 1, 0, none⟩) (lt_ce ca14)).trans ca14
            have cb19 := (hb19.cell (p := ⟨w.heap.size + 1, 1, none⟩) (lt_ce cb14)).trans cb14
            refine hK.out _ _ hB19 (fun _ => ?_)
            clear hK K hb19
            try simp only [Act.put, List.setIfInBounds_toArray, List.set_cons_zero, List.set_cons_succ]
            refine wpAnyH_take (i := 10) (v := .string (({ data := #[69, 0] } ++ ⟨#[by8 ((20 + (load.size : Int)) / 256), by8 (20 + (load.size : Int))]⟩ : ByteArray) ++ ⟨#[by8 (id / 256), by8 id]⟩ : ByteArray)) rfl (by kernel_rfl) (by kernel_rfl) (by kernel_rfl) (fun _ _ _ h => h) (Or.inl ⟨by rfl, ?_⟩) hB19 ?_
            · intro u hu; go_simp
            try simp only [Act.put, List.setIfInBounds_toArray, List.set_cons_zero, List.set_cons_succ]
            refine wpAnyH_take (i := 11) (v := .string ((({ data := #[69, 0] } ++ ⟨#[by8 ((20 + (load.size : Int)) / 256), by8 (20 + (load.size : Int))]⟩ : ByteArray) ++ ⟨#[by8 (id / 256), by8 id]⟩ : ByteArray) ++ { data := #[64, 0] } : ByteArray)) rfl (by kernel_rfl) (by kernel_rfl) (by kernel_rfl) (fun _ _ _ h => h) (Or.inl ⟨by rfl, ?_⟩) hB19 ?_
            · intro u hu; go_simp
            try simp only [Act.put, List.setIfInBounds_toArray, List.set_cons_zero, List.set_cons_succ]
            refine wpAnyH_take (i := 18) (v := .string (((({ data := #[69, 0] } ++ ⟨#[by8 ((20 + (load.size : Int)) / 256), by8 (20 + (load.size : Int))]⟩ : ByteArray) ++ ⟨#[by8 (id / 256), by8 id]⟩ : ByteArray) ++ { data := #[64, 0] } : ByteArray) ++ { data := #[by8 ttl, by8 pr] } : ByteArray)) rfl (by kernel_rfl) (by kernel_rfl) (by kernel_rfl) (fun _ _ _ h => h) (Or.inl ⟨by rfl, ?_⟩) hB19 ?_
            · intro u hu; go_simp
            try simp only [Act.put, List.setIfInBounds_toArray, List.set_cons_zero, List.set_cons_succ]
            refine wpAnyH_ready (rs := [19]) (by kernel_rfl) (by simp) ?_
            refine AllReadyH.cons rfl (fun K hK => ?_) AllReadyH.nil
            · go_simp
              refine hK.out _ _ hB19 (fun _ => ?_)
              clear hK K
              try simp only [Act.put, List.setIfInBounds_toArray, List.set_cons_zero, List.set_cons_succ]
              refine wpAnyH_done (by kernel_rfl) ?_ _
              go_wp2
              go_meet
              exact ⟨congrArg Value.string (ByteArray.ext (Array.ext' (by simp [ByteArray.data_append]))), hB19⟩
      · have hv21 := conv2 _ (w.heap.size + 1) ttl pr ht' hp ca13 cb13
        go_simp
        refine hK.out _ _ hB13 (fun _ => ?_)
        clear hK K hv21
        try simp only [Act.put, List.setIfInBounds_toArray, List.set_cons_zero, List.set_cons_succ]
        refine wpAnyH_ready (rs := [4]) (by kernel_rfl) (by simp) ?_
        refine AllReadyH.cons rfl (fun K hK => ?_) AllReadyH.nil
        · go_simp
          refine (big2_lit _ _ (by omega) (by omega)).mono ?_
          rintro ee u22 ⟨rfl, hb22⟩
          have hB22 : Below (w.heap.size + 1) (w.alloc (.cells #[.int .u16 id, .int .u8 ttl, .int .u8 pr, .int .u32 fr, .int .u32 ta, .string load] 43)) u22 := hB13.trans (hb22.mono (sizes hB13))
          have ca22 := (hb22.cell (p := ⟨w.heap.size + 1, 0, none⟩) (lt_ce ca13)).trans ca13
          have cb22 := (hb22.cell (p := ⟨w.heap.size + 1, 1, none⟩) (lt_ce cb13)).trans cb13
          refine hK.out _ _ hB22 (fun _ => ?_)
          clear hK K hb22
          try simp only [Act.put, List.setIfInBounds_toArray, List.set_cons_zero, List.set_cons_succ]
          refine wpAnyH_take (i := 5) (v := .string ({ data := #[69, 0] } ++ ⟨#[by8 ((20 + (load.size : Int)) / 256), by8 (20 + (load.size : Int))]⟩ : ByteArray)) rfl (by kernel_rfl) (by kernel_rfl) (by kernel_rfl) (fun _ _ _ h => h) (Or.inl ⟨by rfl, ?_⟩) hB22 ?_
          · intro u hu; go_simp
          try simp only [Act.put, List.setIfInBounds_toArray, List.set_cons_zero, List.set_cons_succ]
          refine wpAnyH_ready (rs := [9]) (by kernel_rfl) (by simp) ?_
          refine AllReadyH.cons rfl (fun K hK => ?_) AllReadyH.nil
          · go_simp
            refine (big2_lit _ _ (by omega) (by omega)).mono ?_
            rintro ee u23 ⟨rfl, hb23⟩
            have hB23 : Below (w.heap.size + 1) (w.alloc (.cells #[.int .u16 id, .int .u8 ttl, .int .u8 pr, .int .u32 fr, .int .u32 ta, .string load] 43)) u23 := hB22.trans (hb23.mono (sizes hB22))
            have ca23 := (hb23.cell (p := ⟨w.heap.size + 1, 0, none⟩) (lt_ce ca22)).trans ca22
            have cb23 := (hb23.cell (p := ⟨w.heap.size + 1, 1, none⟩) (lt_ce cb22)).trans cb22
            refine hK.out _ _ hB23 (fun _ => ?_)
            clear hK K hb23
            try simp only [Act.put, List.setIfInBounds_toArray, List.set_cons_zero, List.set_cons_succ]
            refine wpAnyH_take (i := 10) (v := .string (({ data := #[69, 0] } ++ ⟨#[by8 ((20 + (load.size : Int)) / 256), by8 (20 + (load.size : Int))]⟩ : ByteArray) ++ ⟨#[by8 (id / 256), by8 id]⟩ : ByteArray)) rfl (by kernel_rfl) (by kernel_rfl) (by kernel_rfl) (fun _ _ _ h => h) (Or.inl ⟨by rfl, ?_⟩) hB23 ?_
            · intro u hu; go_simp
            try simp only [Act.put, List.setIfInBounds_toArray, List.set_cons_zero, List.set_cons_succ]
            refine wpAnyH_take (i := 11) (v := .string ((({ data := #[69, 0] } ++ ⟨#[by8 ((20 + (load.size : Int)) / 256), by8 (20 + (load.size : Int))]⟩ : ByteArray) ++ ⟨#[by8 (id / 256), by8 id]⟩ : ByteArray) ++ { data := #[64, 0] } : ByteArray)) rfl (by kernel_rfl) (by kernel_rfl) (by kernel_rfl) (fun _ _ _ h => h) (Or.inl ⟨by rfl, ?_⟩) hB23 ?_
            · intro u hu; go_simp
            try simp only [Act.put, List.setIfInBounds_toArray, List.set_cons_zero, List.set_cons_succ]
            refine wpAnyH_take (i := 18) (v := .string (((({ data := #[69, 0] } ++ ⟨#[by8 ((20 + (load.size : Int)) / 256), by8 (20 + (load.size : Int))]⟩ : ByteArray) ++ ⟨#[by8 (id / 256), by8 id]⟩ : ByteArray) ++ { data := #[64, 0] } : ByteArray) ++ { data := #[by8 ttl, by8 pr] } : ByteArray)) rfl (by kernel_rfl) (by kernel_rfl) (by kernel_rfl) (fun _ _ _ h => h) (Or.inl ⟨by rfl, ?_⟩) hB23 ?_
            · intro u hu; go_simp
            try simp only [Act.put, List.setIfInBounds_toArray, List.set_cons_zero, List.set_cons_succ]
            refine wpAnyH_ready (rs := [19]) (by kernel_rfl) (by simp) ?_
            refine AllReadyH.cons rfl (fun K hK => ?_) AllReadyH.nil
            · go_simp
              refine hK.out _ _ hB23 (fun _ => ?_)
              clear hK K
              try simp only [Act.put, List.setIfInBounds_toArray, List.set_cons_zero, List.set_cons_succ]
              refine wpAnyH_done (by kernel_rfl) ?_ _
              go_wp2
              go_meet
              exact ⟨congrArg Value.string (ByteArray.ext (Array.ext' (by simp [ByteArray.data_append]))), hB23⟩
  case rest =>
    obtain ⟨rfl, hB1⟩ := hcut
    rename World => wc
    rw [← unhide HA]
    have hcc1 := six_cells hB1
    have hzz1 := sizes hB1
    go_wp2
    go_region_held3 (fun u => u.cell? ⟨w.heap.size, 3, none⟩ = some (.int .u32 fr) ∧ u.cell? ⟨w.heap.size, 4, none⟩ = some (.int .u32 ta)) (go_keep)
      (first | (go_at_call 53; refine (ip_lit _ _ (by omega) (by omega)).mono ?_; rintro ee u1 ⟨rfl, hb1⟩; have hB1 : Below (w.heap.size + 1) (w.alloc (.cells #[.int .u16 id, .int .u8 ttl, .int .u8 pr, .int .u32 fr, .int .u32 ta, .string load] 43)) u1 := (by first | exact hB1.trans (hb1.mono (sizes hB1)) | exact hB1.drew.trans (hb1.mono (sizes hB1.drew))); have hcc1 := six_cells hB1; have hzz1 := sizes hB1; clear hb1))
    rw [← unhide HBB]
    go_wp2
    go_region_held3 (fun u => u.cell? ⟨w.heap.size, 5, none⟩ = some (.string load)) (go_keep)
      (first | (go_at_call 55; refine (unhide HCk _).mono ?_; rintro ee u1 ⟨rfl, nn, hu1⟩; have hB1 : Below (w.heap.size + 1) (w.alloc (.cells #[.int .u16 id, .int .u8 ttl, .int .u8 pr, .int .u32 fr, .int .u32 ta, .string load] 43)) u1 := (by rw [hu1]; exact Ud.below_drewN hB1.drew nn); have hcc1 := six_cells hB1; have hzz1 := sizes hB1; clear hu1) | (go_at_call 49; refine (big2_lit _ _ (by omega) (by omega)).mono ?_; rintro ee u1 ⟨rfl, hb1⟩; have hB1 : Below (w.heap.size + 1) (w.alloc (.cells #[.int .u16 id, .int .u8 ttl, .int .u8 pr, .int .u32 fr, .int .u32 ta, .string load] 43)) u1 := (by first | exact hB1.trans (hb1.mono (sizes hB1)) | exact hB1.drew.trans (hb1.mono (sizes hB1.drew))); have hcc1 := six_cells hB1; have hzz1 := sizes hB1; clear hb1))
    go_wp2
    go_ret2
    refine ⟨ret_pair (unhide HFin), ?_⟩
    exact ((Below.refl _ w).alloc (Nat.le_refl _) _).trans (hB1.mono (by omega))
end Go.Proofs.Ytadkcdcdgphhpaa.Ip
