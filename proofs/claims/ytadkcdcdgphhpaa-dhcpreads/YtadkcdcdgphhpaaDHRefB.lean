import Derived.Test.YtadkcdcdgphhpaaDHRefM
import Derived.Deep.DeepCutAuto
namespace Go.Proofs.Ytadkcdcdgphhpaa.Dh
open Go.ChangeShapes Go.WideShapes Go.ChangeAt Go.RowKit Bs
open Rr (of_any ofL ipOf_any macOf_all)
set_option linter.unusedVariables false
set_option linter.unusedSimpArgs false

theorem early_block {w u1 : World} (hb : Below ((w.alloc (.cells #[.bool false, .int .u32 0, .int .u32 0, .int .u32 0, .int .u32 0, .int .u8 0, .int .u8 0, .int .u8 0, .int .u8 0, .int .u8 0, .int .u8 0, .slice none 0 0] 57)).alloc (.cells #[.bool false, .int .u32 0, .int .u32 0, .int .u32 0, .int .u32 0, .int .u8 0, .int .u8 0, .int .u8 0, .int .u8 0, .int .u8 0, .int .u8 0, .slice none 0 0] 57)).drew.heap.size ((w.alloc (.cells #[.bool false, .int .u32 0, .int .u32 0, .int .u32 0, .int .u32 0, .int .u8 0, .int .u8 0, .int .u8 0, .int .u8 0, .int .u8 0, .int .u8 0, .slice none 0 0] 57)).alloc (.cells #[.bool false, .int .u32 0, .int .u32 0, .int .u32 0, .int .u32 0, .int .u8 0, .int .u8 0, .int .u8 0, .int .u8 0, .int .u8 0, .int .u8 0, .slice none 0 0] 57)).drew u1) : u1.heap[w.heap.size + 1]? = some (.cells #[.bool false, .int .u32 0, .int .u32 0, .int .u32 0, .int .u32 0, .int .u8 0, .int .u8 0, .int .u8 0, .int .u8 0, .int .u8 0, .int .u8 0, .slice none 0 0] 57 (0, 0)) := by
  rw [hb.block _ (by simp)]
  have q := heap_alloc_new (w.alloc (.cells #[.bool false, .int .u32 0, .int .u32 0, .int .u32 0, .int .u32 0, .int .u8 0, .int .u8 0, .int .u8 0, .int .u8 0, .int .u8 0, .int .u8 0, .slice none 0 0] 57)) (.cells #[.bool false, .int .u32 0, .int .u32 0, .int .u32 0, .int .u32 0, .int .u8 0, .int .u8 0, .int .u8 0, .int .u8 0, .int .u8 0, .int .u8 0, .slice none 0 0] 57)
  rw [show (w.alloc (.cells #[.bool false, .int .u32 0, .int .u32 0, .int .u32 0, .int .u32 0, .int .u8 0, .int .u8 0, .int .u8 0, .int .u8 0, .int .u8 0, .int .u8 0, .slice none 0 0] 57)).heap.size = w.heap.size + 1 by simp] at q
  exact q
theorem early_fr {w u1 : World} {y0 y1 y2 y3 y4 y5 y6 y7 y8 y9 y10 : Value} (hb : Below ((w.alloc (.cells #[.bool false, .int .u32 0, .int .u32 0, .int .u32 0, .int .u32 0, .int .u8 0, .int .u8 0, .int .u8 0, .int .u8 0, .int .u8 0, .int .u8 0, .slice none 0 0] 57)).alloc (.cells #[.bool false, .int .u32 0, .int .u32 0, .int .u32 0, .int .u32 0, .int .u8 0, .int .u8 0, .int .u8 0, .int .u8 0, .int .u8 0, .int .u8 0, .slice none 0 0] 57)).drew.heap.size ((w.alloc (.cells #[.bool false, .int .u32 0, .int .u32 0, .int .u32 0, .int .u32 0, .int .u8 0, .int .u8 0, .int .u8 0, .int .u8 0, .int .u8 0, .int .u8 0, .slice none 0 0] 57)).alloc (.cells #[.bool false, .int .u32 0, .int .u32 0, .int .u32 0, .int .u32 0, .int .u8 0, .int .u8 0, .int .u8 0, .int .u8 0, .int .u8 0, .int .u8 0, .slice none 0 0] 57)).drew u1) : Fr w (w.heap.size + 1) #[y0, y1, y2, y3, y4, y5, y6, y7, y8, y9, y10, .slice none 0 0] ((((((((((((u1.setCell ⟨w.heap.size + 1, 0, none⟩ (y0)).setCell ⟨w.heap.size + 1, 1, none⟩ (y1)).setCell ⟨w.heap.size + 1, 2, none⟩ (y2)).setCell ⟨w.heap.size + 1, 3, none⟩ (y3)).setCell ⟨w.heap.size + 1, 4, none⟩ (y4)).setCell ⟨w.heap.size + 1, 5, none⟩ (y5)).setCell ⟨w.heap.size + 1, 6, none⟩ (y6)).setCell ⟨w.heap.size + 1, 7, none⟩ (y7)).setCell ⟨w.heap.size + 1, 8, none⟩ (y8)).setCell ⟨w.heap.size + 1, 9, none⟩ (y9)).setCell ⟨w.heap.size + 1, 10, none⟩ (y10)).setCell ⟨w.heap.size + 1, 11, none⟩ (.slice none 0 0)) := by
  have hz := hb.size
  have hz2 : w.heap.size + 1 < u1.heap.size := by simp at hz; omega
  have q := DhR.row_set12 (t := 57) (g := w.heap.size + 1) (w := u1) (.bool false) (.int .u32 0) (.int .u32 0) (.int .u32 0) (.int .u32 0) (.int .u8 0) (.int .u8 0) (.int .u8 0) (.int .u8 0) (.int .u8 0) (.int .u8 0) (.slice none 0 0) y0 y1 y2 y3 y4 y5 y6 y7 y8 y9 y10 (.slice none 0 0) (early_block hb)
  refine ⟨by omega, ?_, ?_, q, ?_⟩
  · simp only [World.setCell, Array.size_modify]; omega
  · iterate 12 rw [Below.heap_setCell _ _ _ _ (by show w.heap.size ≠ w.heap.size + 1; omega)]
    rw [hb.block _ (by simp; omega)]
    show ((w.alloc (.cells #[.bool false, .int .u32 0, .int .u32 0, .int .u32 0, .int .u32 0, .int .u8 0, .int .u8 0, .int .u8 0, .int .u8 0, .int .u8 0, .int .u8 0, .slice none 0 0] 57)).alloc (.cells #[.bool false, .int .u32 0, .int .u32 0, .int .u32 0, .int .u32 0, .int .u8 0, .int .u8 0, .int .u8 0, .int .u8 0, .int .u8 0, .int .u8 0, .slice none 0 0] 57)).heap[w.heap.size]? = _
    rw [Below.heap_alloc _ _ _ (by simp)]
    exact heap_alloc_new w _
  · iterate 12 refine Below.setCell ?_ (by show w.heap.size ≤ w.heap.size + 1; omega) _
    exact (((Below.refl _ w).alloc (Nat.le_refl _) _).alloc (by simp) _).drew.trans (hb.mono (by simp; omega))
theorem bad_area (d : List UInt8) (h : areaD d = false) : (d.length ≠ 1) ∨ ∃ x, d = [x] ∧ (x.toNat < 1 ∨ 3 < x.toNat) := by
  match d, h with
  | [], _ => exact Or.inl (by decide)
  | [x], h => 
    refine Or.inr ⟨x, rfl, ?_⟩
    simp [areaD] at h
    omega
  | a :: b :: r, _ => exact Or.inl (by simp)
theorem good_area (d : List UInt8) (h : areaD d = true) : ∃ x, d = [x] ∧ (x.toNat = 1 ∨ x.toNat = 2 ∨ x.toNat = 3) := by
  match d, h with
  | [], h => cases h
  | [x], h => 
    refine ⟨x, rfl, ?_⟩
    simp [areaD] at h
    omega
  | a :: b :: r, h => cases h
theorem idx_one (x : UInt8) (u : World) : (Instr.index 9 (.string ⟨#[x]⟩) (.int .i64 0)).run Try.prog u = .ok (.int .u8 x.toNat) u := idx_str ⟨#[x]⟩ 0 x (by show 0 < 1; omega) rfl 0 rfl u

set_option maxHeartbeats 16000000 in
set_option maxRecDepth 10000 in
theorem ref_one (a0 a1 a2 a3 a4 a5 a6 a7 a8 a9 a10 a11 a12 a13 a14 a15 a16 a17 a18 a19 a20 a21 a22 a23 a24 a25 a26 a27 a28 a29 a30 a31 a32 a33 : UInt8) (m m1 m2 m3 m4 : List UInt8) (s s1 sh sf sc : ByteArray) (w : World) (hS : s.data.toList = a0 :: a1 :: a2 :: a3 :: a4 :: a5 :: a6 :: a7 :: a8 :: a9 :: a10 :: a11 :: a12 :: a13 :: a14 :: a15 :: a16 :: a17 :: a18 :: a19 :: a20 :: a21 :: a22 :: a23 :: a24 :: a25 :: a26 :: a27 :: a28 :: a29 :: a30 :: a31 :: a32 :: a33 :: m) (hs : m4.length ≤ 1048000) (e1 : m = s1.data.toList ++ m1) (e2 : m1 = sh.data.toList ++ m2) (e3 : m2 = sf.data.toList ++ m3) (e4 : m3 = sc.data.toList ++ m4) (z1 : s1.size = 10) (z2 : sh.size = 64) (z3 : sf.size = 128) (z4 : sc.size = 4) (rp : Bool) (x4 : Int) (hx4 : x4 = (16777216 * (a4.toNat : Int) + 65536 * (a5.toNat : Int) + 256 * (a6.toNat : Int) + (a7.toNat : Int))) (x12 : Int) (hx12 : x12 = (16777216 * (a12.toNat : Int) + 65536 * (a13.toNat : Int) + 256 * (a14.toNat : Int) + (a15.toNat : Int))) (x16 : Int) (hx16 : x16 = (16777216 * (a16.toNat : Int) + 65536 * (a17.toNat : Int) + 256 * (a18.toNat : Int) + (a19.toNat : Int))) (x20 : Int) (hx20 : x20 = (16777216 * (a20.toNat : Int) + 65536 * (a21.toNat : Int) + 256 * (a22.toNat : Int) + (a23.toNat : Int))) (hne1 : ((a0.toNat : Int) != 1) = false) (hrp : ((a0.toNat : Int) == 2) = rp) (h1 : a1 = 1) (h2 : a2 = 6) (hck : sc.data.toList = [99, 130, 83, 99]) :
    Calls Try.prog 32 #[.string s] w fun ee w' => RefP (optK m4 sh.data.toList sf.data.toList) (optL m4 sh.data.toList sf.data.toList) (w.heap.size + 2) w (fun v => .agg #[.bool rp, .int .u32 x4, .int .u32 x12, .int .u32 x16, .int .u32 x20, .int .u8 a28.toNat, .int .u8 a29.toNat, .int .u8 a30.toNat, .int .u8 a31.toNat, .int .u8 a32.toNat, .int .u8 a33.toNat, v]) ee w' := by
  obtain ⟨hz, x13, x48, x1216, x1620, x2024, ⟨r28, x28⟩, x44, x108, x236, x240⟩ := parts a0 a1 a2 a3 a4 a5 a6 a7 a8 a9 a10 a11 a12 a13 a14 a15 a16 a17 a18 a19 a20 a21 a22 a23 a24 a25 a26 a27 a28 a29 a30 a31 a32 a33 m m1 m2 m3 m4 s s1 sh sf sc hS e1 e2 e3 e4 z1 z2 z3 z4
  have i0 : ∀ u, (Instr.index 9 (.string s) (.int .i64 0)).run Try.prog u = .ok (.int .u8 a0.toNat) u := fun u => idx_str s 0 a0 (by omega) (by rw [hS]; rfl) 0 rfl u
  have hmx : (s.size : Int) ≤ 9223372036854775807 := by omega
  have k3 : (3 : Int) ≤ (s.size : Int) := by omega
  have k4 : (4 : Int) ≤ (s.size : Int) := by omega
  have k8 : (8 : Int) ≤ (s.size : Int) := by omega
  have k12 : (12 : Int) ≤ (s.size : Int) := by omega
  have k16 : (16 : Int) ≤ (s.size : Int) := by omega
  have k20 : (20 : Int) ≤ (s.size : Int) := by omega
  have k24 : (24 : Int) ≤ (s.size : Int) := by omega
  have k28 : (28 : Int) ≤ (s.size : Int) := by omega
  have k44 : (44 : Int) ≤ (s.size : Int) := by omega
  have k108 : (108 : Int) ≤ (s.size : Int) := by omega
  have k236 : (236 : Int) ≤ (s.size : Int) := by omega
  have k240 : (240 : Int) ≤ (s.size : Int) := by omega
  have k240' : ¬ (s.size : Int) < 240 := by omega
  have O4 : Hid (∀ u : World, Calls Try.prog 45 #[.string (s.extract 4 8)] u fun ee w' => ee = .returned (.int .i64 x4) ∧ w' = u) := hide (fun u => by
    rw [x48, hx4]
    have q := of_any ⟨#[a4, a5, a6, a7]⟩ u (show 4 ≤ 4 by omega)
    rw [show ofL (⟨#[a4, a5, a6, a7]⟩ : ByteArray).data.toList = (16777216 * (a4.toNat : Int) + 65536 * (a5.toNat : Int) + 256 * (a6.toNat : Int) + (a7.toNat : Int)) from by simp [ofL]; omega] at q
    exact q)
  have I12 : Hid (∀ u : World, Calls Try.prog 51 #[.string (s.extract 12 16)] u fun ee w' => ee = .returned (.int .u32 x12) ∧ w' = u) := hide (fun u => by rw [x1216, hx12]; exact ipOf_any a12 a13 a14 a15 u)
  have I16 : Hid (∀ u : World, Calls Try.prog 51 #[.string (s.extract 16 20)] u fun ee w' => ee = .returned (.int .u32 x16) ∧ w' = u) := hide (fun u => by rw [x1620, hx16]; exact ipOf_any a16 a17 a18 a19 u)
  have I20 : Hid (∀ u : World, Calls Try.prog 51 #[.string (s.extract 20 24)] u fun ee w' => ee = .returned (.int .u32 x20) ∧ w' = u) := hide (fun u => by rw [x2024, hx20]; exact ipOf_any a20 a21 a22 a23 u)
  have M28 : Hid (∀ u : World, Calls Try.prog 44 #[.string (s.extract 28 s.size)] u fun ee w' => ee = .returned (.agg #[.int .u8 a28.toNat, .int .u8 a29.toNat, .int .u8 a30.toNat, .int .u8 a31.toNat, .int .u8 a32.toNat, .int .u8 a33.toNat]) ∧ Below u.heap.size u w') := hide (fun u => by rw [x28]; exact macOf_all a28 a29 a30 a31 a32 a33 r28 u)
  have p4 := a4.toNat_lt
  have p5 := a5.toNat_lt
  have p6 := a6.toNat_lt
  have p7 := a7.toNat_lt
  have w4 : IntKind.u32.wrap x4 = x4 := by rw [IntKind.wrap_u32']; omega
  have hc1 : ((s.extract 1 3).toList != [1, 6]) = false := by rw [x13, h1, h2, ByteArray.toList_eq]; rfl
  have hc1' : ((s.extract 1 3).toList == [1, 6]) = true := by rw [x13, h1, h2, ByteArray.toList_eq]; rfl
  have hc2 : ((s.extract 236 240).toList != [99, 130, 83, 99]) = false := by rw [x236, ByteArray.toList_eq, hck]; rfl
  have hc2' : ((s.extract 236 240).toList == [99, 130, 83, 99]) = true := by rw [x236, ByteArray.toList_eq, hck]; rfl
  have HZF : Hid (sf.data.toList.length ≤ 128) := hide (by rw [Array.length_toList]; show sf.size ≤ _; omega)
  have HZH : Hid (sh.data.toList.length ≤ 128) := hide (by rw [Array.length_toList]; show sh.size ≤ _; omega)
  have HOP := hide (fun u v ls (b : Nat) (hb : b ≤ u.heap.size) (hH : Has b u v ls) (hl : heavy ls ≤ 2097152) => options_ref v ls (s.extract 240 s.size) m4 u b hb (by rw [x240]) hH hl (by omega))
  have HOF := hide (fun u v ls (b : Nat) (hb : b ≤ u.heap.size) (hH : Has b u v ls) (hl : heavy ls ≤ 2097152) => options_ref v ls (s.extract 108 236) sf.data.toList u b hb (by rw [x108]) hH hl (by rw [Array.length_toList]; show sf.size ≤ _; omega))
  have HOH := hide (fun u v ls (b : Nat) (hb : b ≤ u.heap.size) (hH : Has b u v ls) (hl : heavy ls ≤ 2097152) => options_ref v ls (s.extract 44 108) sh.data.toList u b hb (by rw [x44]) hH hl (by rw [Array.length_toList]; show sh.size ≤ _; omega))
  clear hS hz e1 e2 e3 e4 z1 z2 z3 z4 x13 x48 x1216 x1620 x2024 x28 x44 x108 x236 x240 hx4 hx12 hx16 hx20 hck h1 h2 p4 p5 p6 p7
  go_enter Try.func32, Try.ntmps32
  go_wp2
  go_cut [3, 4] (fun v3 v4 wc => v3 = .int .i64 0 ∧ ∃ b, v4 = .pointer (some ⟨b, 0, none⟩) ∧ Hid (Fr w b #[.bool rp, .int .u32 x4, .int .u32 x12, .int .u32 x16, .int .u32 x20, .int .u8 a28.toNat, .int .u8 a29.toNat, .int .u8 a30.toNat, .int .u8 a31.toNat, .int .u8 a32.toNat, .int .u8 a33.toNat, .slice none 0 0] wc))
  case first =>
      refine wp_region_any (by kernel_rfl) ?_
      change wpAny _ _ _ _ _ _ _ (World.drew _)
      refine wpAny_take (i := 0) (v := .string s) rfl (by kernel_rfl) (by kernel_rfl) (by kernel_rfl) (fun _ _ _ h => h) (Or.inl ⟨by rfl, ?_⟩) ?_
      · intro u; go_simp
      try simp only [Act.put, List.setIfInBounds_toArray, List.set_cons_zero, List.set_cons_succ]
      refine wpAny_take (i := 1) (v := .int .u8 a0.toNat) rfl (by kernel_rfl) (by kernel_rfl) (by kernel_rfl) (fun _ _ _ h => h) (Or.inl ⟨by rfl, ?_⟩) ?_
      · intro u; go_simp
      try simp only [Act.put, List.setIfInBounds_toArray, List.set_cons_zero, List.set_cons_succ]
      refine wpAny_take (i := 2) (v := .bool rp) rfl (by kernel_rfl) (by kernel_rfl) (by kernel_rfl) (fun _ _ _ h => h) (Or.inl ⟨by rfl, ?_⟩) ?_
      · intro u; go_simp
      try simp only [Act.put, List.setIfInBounds_toArray, List.set_cons_zero, List.set_cons_succ]
      refine wpAny_take (i := 3) (v := .string s) rfl (by kernel_rfl) (by kernel_rfl) (by kernel_rfl) (fun _ _ _ h => h) (Or.inl ⟨by rfl, ?_⟩) ?_
      · intro u; go_simp
      try simp only [Act.put, List.setIfInBounds_toArray, List.set_cons_zero, List.set_cons_succ]
      refine wpAny_take (i := 4) (v := .string (s.extract 4 8)) rfl (by kernel_rfl) (by kernel_rfl) (by kernel_rfl) (fun _ _ _ h => h) (Or.inl ⟨by rfl, ?_⟩) ?_
      · intro u; go_simp
      try simp only [Act.put, List.setIfInBounds_toArray, List.set_cons_zero, List.set_cons_succ]
      refine wpAny_take (i := 7) (v := .string s) rfl (by kernel_rfl) (by kernel_rfl) (by kernel_rfl) (fun _ _ _ h => h) (Or.inl ⟨by rfl, ?_⟩) ?_
      · intro u; go_simp
      try simp only [Act.put, List.setIfInBounds_toArray, List.set_cons_zero, List.set_cons_succ]
      refine wpAny_take (i := 8) (v := .string (s.extract 12 16)) rfl (by kernel_rfl) (by kernel_rfl) (by kernel_rfl) (fun _ _ _ h => h) (Or.inl ⟨by rfl, ?_⟩) ?_
      · intro u; go_simp
      try simp only [Act.put, List.setIfInBounds_toArray, List.set_cons_zero, List.set_cons_succ]
      refine wpAny_take (i := 10) (v := .string s) rfl (by kernel_rfl) (by kernel_rfl) (by kernel_rfl) (fun _ _ _ h => h) (Or.inl ⟨by rfl, ?_⟩) ?_
      · intro u; go_simp
      try simp only [Act.put, List.setIfInBounds_toArray, List.set_cons_zero, List.set_cons_succ]
      refine wpAny_take (i := 11) (v := .string (s.extract 16 20)) rfl (by kernel_rfl) (by kernel_rfl) (by kernel_rfl) (fun _ _ _ h => h) (Or.inl ⟨by rfl, ?_⟩) ?_
      · intro u; go_simp
      try simp only [Act.put, List.setIfInBounds_toArray, List.set_cons_zero, List.set_cons_succ]
      refine wpAny_take (i := 13) (v := .string s) rfl (by kernel_rfl) (by kernel_rfl) (by kernel_rfl) (fun _ _ _ h => h) (Or.inl ⟨by rfl, ?_⟩) ?_
      · intro u; go_simp
      try simp only [Act.put, List.setIfInBounds_toArray, List.set_cons_zero, List.set_cons_succ]
      refine wpAny_take (i := 14) (v := .string (s.extract 20 24)) rfl (by kernel_rfl) (by kernel_rfl) (by kernel_rfl) (fun _ _ _ h => h) (Or.inl ⟨by rfl, ?_⟩) ?_
      · intro u; go_simp
      try simp only [Act.put, List.setIfInBounds_toArray, List.set_cons_zero, List.set_cons_succ]
      refine wpAny_take (i := 16) (v := .string s) rfl (by kernel_rfl) (by kernel_rfl) (by kernel_rfl) (fun _ _ _ h => h) (Or.inl ⟨by rfl, ?_⟩) ?_
      · intro u; go_simp
      try simp only [Act.put, List.setIfInBounds_toArray, List.set_cons_zero, List.set_cons_succ]
      refine wpAny_take (i := 17) (v := .string (s.extract 28 s.size)) rfl (by kernel_rfl) (by kernel_rfl) (by kernel_rfl) (fun _ _ _ h => h) (Or.inl ⟨by rfl, ?_⟩) ?_
      · intro u; go_simp
      try simp only [Act.put, List.setIfInBounds_toArray, List.set_cons_zero, List.set_cons_succ]
      refine wpAny_ready (rs := [5, 20]) (by kernel_rfl) (by simp) ?_
      refine AllReady.cons rfl (fun K hK => ?_) (AllReady.cons rfl (fun K hK => ?_) AllReady.nil)
      · go_simp
        refine (unhide O4 _).mono ?_
        rintro ee u2 ⟨rfl, hu⟩
        rw [hu]
        clear hu u2
        refine hK _ _ ?_
        clear hK K
        try simp only [Act.put, List.setIfInBounds_toArray, List.set_cons_zero, List.set_cons_succ]
        refine wpAny_take (i := 6) (v := .int .u32 x4) rfl (by kernel_rfl) (by kernel_rfl) (by kernel_rfl) (fun _ _ _ h => h) (Or.inl ⟨by rfl, ?_⟩) ?_
        · intro u; go_simp
        try simp only [Act.put, List.setIfInBounds_toArray, List.set_cons_zero, List.set_cons_succ]
        refine wpAny_ready (rs := [9, 20]) (by kernel_rfl) (by simp) ?_
        refine AllReady.cons rfl (fun K hK => ?_) (AllReady.cons rfl (fun K hK => ?_) AllReady.nil)
        · go_simp
          refine (unhide I12 _).mono ?_
          rintro ee u2 ⟨rfl, hu⟩
          rw [hu]
          clear hu u2
          refine hK _ _ ?_
          clear hK K
          try simp only [Act.put, List.setIfInBounds_toArray, List.set_cons_zero, List.set_cons_succ]
          refine wpAny_ready (rs := [12, 20]) (by kernel_rfl) (by simp) ?_
          refine AllReady.cons rfl (fun K hK => ?_) (AllReady.cons rfl (fun K hK => ?_) AllReady.nil)
          · go_simp
            refine (unhide I16 _).mono ?_
            rintro ee u2 ⟨rfl, hu⟩
            rw [hu]
            clear hu u2
            refine hK _ _ ?_
            clear hK K
            try simp only [Act.put, List.setIfInBounds_toArray, List.set_cons_zero, List.set_cons_succ]
            refine wpAny_ready (rs := [15, 20]) (by kernel_rfl) (by simp) ?_
            refine AllReady.cons rfl (fun K hK => ?_) (AllReady.cons rfl (fun K hK => ?_) AllReady.nil)
            · go_simp
              refine (unhide I20 _).mono ?_
              rintro ee u2 ⟨rfl, hu⟩
              rw [hu]
              clear hu u2
              refine hK _ _ ?_
              clear hK K
              try simp only [Act.put, List.setIfInBounds_toArray, List.set_cons_zero, List.set_cons_succ]
              refine wpAny_ready (rs := [18, 20]) (by kernel_rfl) (by simp) ?_
              refine AllReady.cons rfl (fun K hK => ?_) (AllReady.cons rfl (fun K hK => ?_) AllReady.nil)
              · go_simp
                refine (unhide M28 _).mono ?_
                rintro ee u1 ⟨rfl, hb1⟩
                refine hK _ _ ?_
                clear hK K
                try simp only [Act.put, List.setIfInBounds_toArray, List.set_cons_zero, List.set_cons_succ]
                refine wpAny_take (i := 19) (v := .agg #[.bool rp, .int .u32 x4, .int .u32 x12, .int .u32 x16, .int .u32 x20, .int .u8 a28.toNat, .int .u8 a29.toNat, .int .u8 a30.toNat, .int .u8 a31.toNat, .int .u8 a32.toNat, .int .u8 a33.toNat, .slice none 0 0]) rfl (by kernel_rfl) (by kernel_rfl) (by kernel_rfl) (fun _ _ _ h => h) (Or.inl ⟨by rfl, ?_⟩) ?_
                · intro u; go_simp
                try simp only [Act.put, List.setIfInBounds_toArray, List.set_cons_zero, List.set_cons_succ]
                refine wpAny_ready (rs := [20]) (by kernel_rfl) (by simp) ?_
                refine AllReady.cons rfl (fun K hK => ?_) AllReady.nil
                go_simp
                refine hK _ _ ?_
                clear hK K
                try simp only [Act.put, List.setIfInBounds_toArray, List.set_cons_zero, List.set_cons_succ]
                refine wpAny_ready (rs := [21]) (by kernel_rfl) (by simp) ?_
                refine AllReady.cons rfl (fun K hK => ?_) AllReady.nil
                go_simp
                refine hK _ _ ?_
                clear hK K
                try simp only [Act.put, List.setIfInBounds_toArray, List.set_cons_zero, List.set_cons_succ]
                refine wpAny_done (by kernel_rfl) ?_ _
                go_wp2
                go_meet
                refine ⟨rfl, u1.heap.size, rfl, hide ⟨?_, by simp, ?_, ?_, ?_⟩⟩
                · have := hb1.size; simp at this; omega
                · rw [Below.heap_alloc _ _ _ (by have := hb1.size; simp at this; omega), hb1.block _ (by simp)]; exact heap_alloc_new w _
                · exact heap_alloc_new u1 _
                · exact (((Below.refl _ w).alloc (Nat.le_refl _) _).drew.trans (hb1.mono (by simp))).alloc (by have := hb1.size; simp at this; omega) _
              · go_simp
                refine hK _ _ ?_
                clear hK K
                try simp only [Act.put, List.setIfInBounds_toArray, List.set_cons_zero, List.set_cons_succ]
                refine wpAny_ready (rs := [18]) (by kernel_rfl) (by simp) ?_
                refine AllReady.cons rfl (fun K hK => ?_) AllReady.nil
                go_simp
                refine (unhide M28 _).mono ?_
                rintro ee u1 ⟨rfl, hb1⟩
                have hzb : u1.heap[w.heap.size + 1]? = some (.cells #[.bool false, .int .u32 0, .int .u32 0, .int .u32 0, .int .u32 0, .int .u8 0, .int .u8 0, .int .u8 0, .int .u8 0, .int .u8 0, .int .u8 0, .slice none 0 0] 57 (0, 0)) := early_block hb1
                have zc0 : u1.cell? ⟨w.heap.size + 1, 0, none⟩ = some (.bool false) := EtR.row_cell hzb rfl
                have zc1 : u1.cell? ⟨w.heap.size + 1, 1, none⟩ = some (.int .u32 0) := EtR.row_cell hzb rfl
                have zc2 : u1.cell? ⟨w.heap.size + 1, 2, none⟩ = some (.int .u32 0) := EtR.row_cell hzb rfl
                have zc3 : u1.cell? ⟨w.heap.size + 1, 3, none⟩ = some (.int .u32 0) := EtR.row_cell hzb rfl
                have zc4 : u1.cell? ⟨w.heap.size + 1, 4, none⟩ = some (.int .u32 0) := EtR.row_cell hzb rfl
                have zc5 : u1.cell? ⟨w.heap.size + 1, 5, none⟩ = some (.int .u8 0) := EtR.row_cell hzb rfl
                have zc6 : u1.cell? ⟨w.heap.size + 1, 6, none⟩ = some (.int .u8 0) := EtR.row_cell hzb rfl
                have zc7 : u1.cell? ⟨w.heap.size + 1, 7, none⟩ = some (.int .u8 0) := EtR.row_cell hzb rfl
                have zc8 : u1.cell? ⟨w.heap.size + 1, 8, none⟩ = some (.int .u8 0) := EtR.row_cell hzb rfl
                have zc9 : u1.cell? ⟨w.heap.size + 1, 9, none⟩ = some (.int .u8 0) := EtR.row_cell hzb rfl
                have zc10 : u1.cell? ⟨w.heap.size + 1, 10, none⟩ = some (.int .u8 0) := EtR.row_cell hzb rfl
                have zc11 : u1.cell? ⟨w.heap.size + 1, 11, none⟩ = some (.slice none 0 0) := EtR.row_cell hzb rfl
                have zf := EtR.row_free hzb
                refine hK _ _ ?_
                clear hK K
                try simp only [Act.put, List.setIfInBounds_toArray, List.set_cons_zero, List.set_cons_succ]
                refine wpAny_take (i := 19) (v := .agg #[.bool rp, .int .u32 x4, .int .u32 x12, .int .u32 x16, .int .u32 x20, .int .u8 a28.toNat, .int .u8 a29.toNat, .int .u8 a30.toNat, .int .u8 a31.toNat, .int .u8 a32.toNat, .int .u8 a33.toNat, .slice none 0 0]) rfl (by kernel_rfl) (by kernel_rfl) (by kernel_rfl) (fun _ _ _ h => h) (Or.inl ⟨by rfl, ?_⟩) ?_
                · intro u; go_simp
                try simp only [Act.put, List.setIfInBounds_toArray, List.set_cons_zero, List.set_cons_succ]
                refine wpAny_ready (rs := [21]) (by kernel_rfl) (by simp) ?_
                refine AllReady.cons rfl (fun K hK => ?_) AllReady.nil
                go_simp
                refine hK _ _ ?_
                clear hK K
                try simp only [Act.put, List.setIfInBounds_toArray, List.set_cons_zero, List.set_cons_succ]
                refine wpAny_done (by kernel_rfl) ?_ _
                go_wp2
                go_meet
                exact ⟨rfl, w.heap.size + 1, rfl, hide (early_fr hb1)⟩
            · go_simp
              refine hK _ _ ?_
              clear hK K
              try simp only [Act.put, List.setIfInBounds_toArray, List.set_cons_zero, List.set_cons_succ]
              refine wpAny_ready (rs := [15]) (by kernel_rfl) (by simp) ?_
              refine AllReady.cons rfl (fun K hK => ?_) AllReady.nil
              go_simp
              refine (unhide I20 _).mono ?_
              rintro ee u2 ⟨rfl, hu⟩
              rw [hu]
              clear hu u2
              refine hK _ _ ?_
              clear hK K
              try simp only [Act.put, List.setIfInBounds_toArray, List.set_cons_zero, List.set_cons_succ]
              refine wpAny_ready (rs := [18]) (by kernel_rfl) (by simp) ?_
              refine AllReady.cons rfl (fun K hK => ?_) AllReady.nil
              go_simp
              refine (unhide M28 _).mono ?_
              rintro ee u1 ⟨rfl, hb1⟩
              have hzb : u1.heap[w.heap.size + 1]? = some (.cells #[.bool false, .int .u32 0, .int .u32 0, .int .u32 0, .int .u32 0, .int .u8 0, .int .u8 0, .int .u8 0, .int .u8 0, .int .u8 0, .int .u8 0, .slice none 0 0] 57 (0, 0)) := early_block hb1
              have zc0 : u1.cell? ⟨w.heap.size + 1, 0, none⟩ = some (.bool false) := EtR.row_cell hzb rfl
              have zc1 : u1.cell? ⟨w.heap.size + 1, 1, none⟩ = some (.int .u32 0) := EtR.row_cell hzb rfl
              have zc2 : u1.cell? ⟨w.heap.size + 1, 2, none⟩ = some (.int .u32 0) := EtR.row_cell hzb rfl
              have zc3 : u1.cell? ⟨w.heap.size + 1, 3, none⟩ = some (.int .u32 0) := EtR.row_cell hzb rfl
              have zc4 : u1.cell? ⟨w.heap.size + 1, 4, none⟩ = some (.int .u32 0) := EtR.row_cell hzb rfl
              have zc5 : u1.cell? ⟨w.heap.size + 1, 5, none⟩ = some (.int .u8 0) := EtR.row_cell hzb rfl
              have zc6 : u1.cell? ⟨w.heap.size + 1, 6, none⟩ = some (.int .u8 0) := EtR.row_cell hzb rfl
              have zc7 : u1.cell? ⟨w.heap.size + 1, 7, none⟩ = some (.int .u8 0) := EtR.row_cell hzb rfl
              have zc8 : u1.cell? ⟨w.heap.size + 1, 8, none⟩ = some (.int .u8 0) := EtR.row_cell hzb rfl
              have zc9 : u1.cell? ⟨w.heap.size + 1, 9, none⟩ = some (.int .u8 0) := EtR.row_cell hzb rfl
              have zc10 : u1.cell? ⟨w.heap.size + 1, 10, none⟩ = some (.int .u8 0) := EtR.row_cell hzb rfl
              have zc11 : u1.cell? ⟨w.heap.size + 1, 11, none⟩ = some (.slice none 0 0) := EtR.row_cell hzb rfl
              have zf := EtR.row_free hzb
              refine hK _ _ ?_
              clear hK K
              try simp only [Act.put, List.setIfInBounds_toArray, List.set_cons_zero, List.set_cons_succ]
              refine wpAny_take (i := 19) (v := .agg #[.bool rp, .int .u32 x4, .int .u32 x12, .int .u32 x16, .int .u32 x20, .int .u8 a28.toNat, .int .u8 a29.toNat, .int .u8 a30.toNat, .int .u8 a31.toNat, .int .u8 a32.toNat, .int .u8 a33.toNat, .slice none 0 0]) rfl (by kernel_rfl) (by kernel_rfl) (by kernel_rfl) (fun _ _ _ h => h) (Or.inl ⟨by rfl, ?_⟩) ?_
              · intro u; go_simp
              try simp only [Act.put, List.setIfInBounds_toArray, List.set_cons_zero, List.set_cons_succ]
              refine wpAny_ready (rs := [21]) (by kernel_rfl) (by simp) ?_
              refine AllReady.cons rfl (fun K hK => ?_) AllReady.nil
              go_simp
              refine hK _ _ ?_
              clear hK K
              try simp only [Act.put, List.setIfInBounds_toArray, List.set_cons_zero, List.set_cons_succ]
              refine wpAny_done (by kernel_rfl) ?_ _
              go_wp2
              go_meet
              exact ⟨rfl, w.heap.size + 1, rfl, hide (early_fr hb1)⟩
          · go_simp
            refine hK _ _ ?_
            clear hK K
            try simp only [Act.put, List.setIfInBounds_toArray, List.set_cons_zero, List.set_cons_succ]
            refine wpAny_ready (rs := [12]) (by kernel_rfl) (by simp) ?_
            refine AllReady.cons rfl (fun K hK => ?_) AllReady.nil
            go_simp
            refine (unhide I16 _).mono ?_
            rintro ee u2 ⟨rfl, hu⟩
            rw [hu]
            clear hu u2
            refine hK _ _ ?_
            clear hK K
            try simp only [Act.put, List.setIfInBounds_toArray, List.set_cons_zero, List.set_cons_succ]
            refine wpAny_ready (rs := [15]) (by kernel_rfl) (by simp) ?_
            refine AllReady.cons rfl (fun K hK => ?_) AllReady.nil
            go_simp
            refine (unhide I20 _).mono ?_
            rintro ee u2 ⟨rfl, hu⟩
            rw [hu]
            clear hu u2
            refine hK _ _ ?_
            clear hK K
            try simp only [Act.put, List.setIfInBounds_toArray, List.set_cons_zero, List.set_cons_succ]
            refine wpAny_ready (rs := [18]) (by kernel_rfl) (by simp) ?_
            refine AllReady.cons rfl (fun K hK => ?_) AllReady.nil
            go_simp
            refine (unhide M28 _).mono ?_
            rintro ee u1 ⟨rfl, hb1⟩
            have hzb : u1.heap[w.heap.size + 1]? = some (.cells #[.bool false, .int .u32 0, .int .u32 0, .int .u32 0, .int .u32 0, .int .u8 0, .int .u8 0, .int .u8 0, .int .u8 0, .int .u8 0, .int .u8 0, .slice none 0 0] 57 (0, 0)) := early_block hb1
            have zc0 : u1.cell? ⟨w.heap.size + 1, 0, none⟩ = some (.bool false) := EtR.row_cell hzb rfl
            have zc1 : u1.cell? ⟨w.heap.size + 1, 1, none⟩ = some (.int .u32 0) := EtR.row_cell hzb rfl
            have zc2 : u1.cell? ⟨w.heap.size + 1, 2, none⟩ = some (.int .u32 0) := EtR.row_cell hzb rfl
            have zc3 : u1.cell? ⟨w.heap.size + 1, 3, none⟩ = some (.int .u32 0) := EtR.row_cell hzb rfl
            have zc4 : u1.cell? ⟨w.heap.size + 1, 4, none⟩ = some (.int .u32 0) := EtR.row_cell hzb rfl
            have zc5 : u1.cell? ⟨w.heap.size + 1, 5, none⟩ = some (.int .u8 0) := EtR.row_cell hzb rfl
            have zc6 : u1.cell? ⟨w.heap.size + 1, 6, none⟩ = some (.int .u8 0) := EtR.row_cell hzb rfl
            have zc7 : u1.cell? ⟨w.heap.size + 1, 7, none⟩ = some (.int .u8 0) := EtR.row_cell hzb rfl
            have zc8 : u1.cell? ⟨w.heap.size + 1, 8, none⟩ = some (.int .u8 0) := EtR.row_cell hzb rfl
            have zc9 : u1.cell? ⟨w.heap.size + 1, 9, none⟩ = some (.int .u8 0) := EtR.row_cell hzb rfl
            have zc10 : u1.cell? ⟨w.heap.size + 1, 10, none⟩ = some (.int .u8 0) := EtR.row_cell hzb rfl
            have zc11 : u1.cell? ⟨w.heap.size + 1, 11, none⟩ = some (.slice none 0 0) := EtR.row_cell hzb rfl
            have zf := EtR.row_free hzb
            refine hK _ _ ?_
            clear hK K
            try simp only [Act.put, List.setIfInBounds_toArray, List.set_cons_zero, List.set_cons_succ]
            refine wpAny_take (i := 19) (v := .agg #[.bool rp, .int .u32 x4, .int .u32 x12, .int .u32 x16, .int .u32 x20, .int .u8 a28.toNat, .int .u8 a29.toNat, .int .u8 a30.toNat, .int .u8 a31.toNat, .int .u8 a32.toNat, .int .u8 a33.toNat, .slice none 0 0]) rfl (by kernel_rfl) (by kernel_rfl) (by kernel_rfl) (fun _ _ _ h => h) (Or.inl ⟨by rfl, ?_⟩) ?_
            · intro u; go_simp
            try simp only [Act.put, List.setIfInBounds_toArray, List.set_cons_zero, List.set_cons_succ]
            refine wpAny_ready (rs := [21]) (by kernel_rfl) (by simp) ?_
            refine AllReady.cons rfl (fun K hK => ?_) AllReady.nil
            go_simp
            refine hK _ _ ?_
            clear hK K
            try simp only [Act.put, List.setIfInBounds_toArray, List.set_cons_zero, List.set_cons_succ]
            refine wpAny_done (by kernel_rfl) ?_ _
            go_wp2
            go_meet
            exact ⟨rfl, w.heap.size + 1, rfl, hide (early_fr hb1)⟩
        · go_simp
          refine hK _ _ ?_
          clear hK K
          try simp only [Act.put, List.setIfInBounds_toArray, List.set_cons_zero, List.set_cons_succ]
          refine wpAny_ready (rs := [9]) (by kernel_rfl) (by simp) ?_
          refine AllReady.cons rfl (fun K hK => ?_) AllReady.nil
          go_simp
          refine (unhide I12 _).mono ?_
          rintro ee u2 ⟨rfl, hu⟩
          rw [hu]
          clear hu u2
          refine hK _ _ ?_
          clear hK K
          try simp only [Act.put, List.setIfInBounds_toArray, List.set_cons_zero, List.set_cons_succ]
          refine wpAny_ready (rs := [12]) (by kernel_rfl) (by simp) ?_
          refine AllReady.cons rfl (fun K hK => ?_) AllReady.nil
          go_simp
          refine (unhide I16 _).mono ?_
          rintro ee u2 ⟨rfl, hu⟩
          rw [hu]
          clear hu u2
          refine hK _ _ ?_
          clear hK K
          try simp only [Act.put, List.setIfInBounds_toArray, List.set_cons_zero, List.set_cons_succ]
          refine wpAny_ready (rs := [15]) (by kernel_rfl) (by simp) ?_
          refine AllReady.cons rfl (fun K hK => ?_) AllReady.nil
          go_simp
          refine (unhide I20 _).mono ?_
          rintro ee u2 ⟨rfl, hu⟩
          rw [hu]
          clear hu u2
          refine hK _ _ ?_
          clear hK K
          try simp only [Act.put, List.setIfInBounds_toArray, List.set_cons_zero, List.set_cons_succ]
          refine wpAny_ready (rs := [18]) (by kernel_rfl) (by simp) ?_
          refine AllReady.cons rfl (fun K hK => ?_) AllReady.nil
          go_simp
          refine (unhide M28 _).mono ?_
          rintro ee u1 ⟨rfl, hb1⟩
          have hzb : u1.heap[w.heap.size + 1]? = some (.cells #[.bool false, .int .u32 0, .int .u32 0, .int .u32 0, .int .u32 0, .int .u8 0, .int .u8 0, .int .u8 0, .int .u8 0, .int .u8 0, .int .u8 0, .slice none 0 0] 57 (0, 0)) := early_block hb1
          have zc0 : u1.cell? ⟨w.heap.size + 1, 0, none⟩ = some (.bool false) := EtR.row_cell hzb rfl
          have zc1 : u1.cell? ⟨w.heap.size + 1, 1, none⟩ = some (.int .u32 0) := EtR.row_cell hzb rfl
          have zc2 : u1.cell? ⟨w.heap.size + 1, 2, none⟩ = some (.int .u32 0) := EtR.row_cell hzb rfl
          have zc3 : u1.cell? ⟨w.heap.size + 1, 3, none⟩ = some (.int .u32 0) := EtR.row_cell hzb rfl
          have zc4 : u1.cell? ⟨w.heap.size + 1, 4, none⟩ = some (.int .u32 0) := EtR.row_cell hzb rfl
          have zc5 : u1.cell? ⟨w.heap.size + 1, 5, none⟩ = some (.int .u8 0) := EtR.row_cell hzb rfl
          have zc6 : u1.cell? ⟨w.heap.size + 1, 6, none⟩ = some (.int .u8 0) := EtR.row_cell hzb rfl
          have zc7 : u1.cell? ⟨w.heap.size + 1, 7, none⟩ = some (.int .u8 0) := EtR.row_cell hzb rfl
          have zc8 : u1.cell? ⟨w.heap.size + 1, 8, none⟩ = some (.int .u8 0) := EtR.row_cell hzb rfl
          have zc9 : u1.cell? ⟨w.heap.size + 1, 9, none⟩ = some (.int .u8 0) := EtR.row_cell hzb rfl
          have zc10 : u1.cell? ⟨w.heap.size + 1, 10, none⟩ = some (.int .u8 0) := EtR.row_cell hzb rfl
          have zc11 : u1.cell? ⟨w.heap.size + 1, 11, none⟩ = some (.slice none 0 0) := EtR.row_cell hzb rfl
          have zf := EtR.row_free hzb
          refine hK _ _ ?_
          clear hK K
          try simp only [Act.put, List.setIfInBounds_toArray, List.set_cons_zero, List.set_cons_succ]
          refine wpAny_take (i := 19) (v := .agg #[.bool rp, .int .u32 x4, .int .u32 x12, .int .u32 x16, .int .u32 x20, .int .u8 a28.toNat, .int .u8 a29.toNat, .int .u8 a30.toNat, .int .u8 a31.toNat, .int .u8 a32.toNat, .int .u8 a33.toNat, .slice none 0 0]) rfl (by kernel_rfl) (by kernel_rfl) (by kernel_rfl) (fun _ _ _ h => h) (Or.inl ⟨by rfl, ?_⟩) ?_
          · intro u; go_simp
          try simp only [Act.put, List.setIfInBounds_toArray, List.set_cons_zero, List.set_cons_succ]
          refine wpAny_ready (rs := [21]) (by kernel_rfl) (by simp) ?_
          refine AllReady.cons rfl (fun K hK => ?_) AllReady.nil
          go_simp
          refine hK _ _ ?_
          clear hK K
          try simp only [Act.put, List.setIfInBounds_toArray, List.set_cons_zero, List.set_cons_succ]
          refine wpAny_done (by kernel_rfl) ?_ _
          go_wp2
          go_meet
          exact ⟨rfl, w.heap.size + 1, rfl, hide (early_fr hb1)⟩
      · go_simp
        refine hK _ _ ?_
        clear hK K
        try simp only [Act.put, List.setIfInBounds_toArray, List.set_cons_zero, List.set_cons_succ]
        refine wpAny_ready (rs := [5]) (by kernel_rfl) (by simp) ?_
        refine AllReady.cons rfl (fun K hK => ?_) AllReady.nil
        go_simp
        refine (unhide O4 _).mono ?_
        rintro ee u2 ⟨rfl, hu⟩
        rw [hu]
        clear hu u2
        refine hK _ _ ?_
        clear hK K
        try simp only [Act.put, List.setIfInBounds_toArray, List.set_cons_zero, List.set_cons_succ]
        refine wpAny_take (i := 6) (v := .int .u32 x4) rfl (by kernel_rfl) (by kernel_rfl) (by kernel_rfl) (fun _ _ _ h => h) (Or.inl ⟨by rfl, ?_⟩) ?_
        · intro u; go_simp
        try simp only [Act.put, List.setIfInBounds_toArray, List.set_cons_zero, List.set_cons_succ]
        refine wpAny_ready (rs := [9]) (by kernel_rfl) (by simp) ?_
        refine AllReady.cons rfl (fun K hK => ?_) AllReady.nil
        go_simp
        refine (unhide I12 _).mono ?_
        rintro ee u2 ⟨rfl, hu⟩
        rw [hu]
        clear hu u2
        refine hK _ _ ?_
        clear hK K
        try simp only [Act.put, List.setIfInBounds_toArray, List.set_cons_zero, List.set_cons_succ]
        refine wpAny_ready (rs := [12]) (by kernel_rfl) (by simp) ?_
        refine AllReady.cons rfl (fun K hK => ?_) AllReady.nil
        go_simp
        refine (unhide I16 _).mono ?_
        rintro ee u2 ⟨rfl, hu⟩
        rw [hu]
        clear hu u2
        refine hK _ _ ?_
        clear hK K
        try simp only [Act.put, List.setIfInBounds_toArray, List.set_cons_zero, List.set_cons_succ]
        refine wpAny_ready (rs := [15]) (by kernel_rfl) (by simp) ?_
        refine AllReady.cons rfl (fun K hK => ?_) AllReady.nil
        go_simp
        refine (unhide I20 _).mono ?_
        rintro ee u2 ⟨rfl, hu⟩
        rw [hu]
        clear hu u2
        refine hK _ _ ?_
        clear hK K
        try simp only [Act.put, List.setIfInBounds_toArray, List.set_cons_zero, List.set_cons_succ]
        refine wpAny_ready (rs := [18]) (by kernel_rfl) (by simp) ?_
        refine AllReady.cons rfl (fun K hK => ?_) AllReady.nil
        go_simp
        refine (unhide M28 _).mono ?_
        rintro ee u1 ⟨rfl, hb1⟩
        have hzb : u1.heap[w.heap.size + 1]? = some (.cells #[.bool false, .int .u32 0, .int .u32 0, .int .u32 0, .int .u32 0, .int .u8 0, .int .u8 0, .int .u8 0, .int .u8 0, .int .u8 0, .int .u8 0, .slice none 0 0] 57 (0, 0)) := early_block hb1
        have zc0 : u1.cell? ⟨w.heap.size + 1, 0, none⟩ = some (.bool false) := EtR.row_cell hzb rfl
        have zc1 : u1.cell? ⟨w.heap.size + 1, 1, none⟩ = some (.int .u32 0) := EtR.row_cell hzb rfl
        have zc2 : u1.cell? ⟨w.heap.size + 1, 2, none⟩ = some (.int .u32 0) := EtR.row_cell hzb rfl
        have zc3 : u1.cell? ⟨w.heap.size + 1, 3, none⟩ = some (.int .u32 0) := EtR.row_cell hzb rfl
        have zc4 : u1.cell? ⟨w.heap.size + 1, 4, none⟩ = some (.int .u32 0) := EtR.row_cell hzb rfl
        have zc5 : u1.cell? ⟨w.heap.size + 1, 5, none⟩ = some (.int .u8 0) := EtR.row_cell hzb rfl
        have zc6 : u1.cell? ⟨w.heap.size + 1, 6, none⟩ = some (.int .u8 0) := EtR.row_cell hzb rfl
        have zc7 : u1.cell? ⟨w.heap.size + 1, 7, none⟩ = some (.int .u8 0) := EtR.row_cell hzb rfl
        have zc8 : u1.cell? ⟨w.heap.size + 1, 8, none⟩ = some (.int .u8 0) := EtR.row_cell hzb rfl
        have zc9 : u1.cell? ⟨w.heap.size + 1, 9, none⟩ = some (.int .u8 0) := EtR.row_cell hzb rfl
        have zc10 : u1.cell? ⟨w.heap.size + 1, 10, none⟩ = some (.int .u8 0) := EtR.row_cell hzb rfl
        have zc11 : u1.cell? ⟨w.heap.size + 1, 11, none⟩ = some (.slice none 0 0) := EtR.row_cell hzb rfl
        have zf := EtR.row_free hzb
        refine hK _ _ ?_
        clear hK K
        try simp only [Act.put, List.setIfInBounds_toArray, List.set_cons_zero, List.set_cons_succ]
        refine wpAny_take (i := 19) (v := .agg #[.bool rp, .int .u32 x4, .int .u32 x12, .int .u32 x16, .int .u32 x20, .int .u8 a28.toNat, .int .u8 a29.toNat, .int .u8 a30.toNat, .int .u8 a31.toNat, .int .u8 a32.toNat, .int .u8 a33.toNat, .slice none 0 0]) rfl (by kernel_rfl) (by kernel_rfl) (by kernel_rfl) (fun _ _ _ h => h) (Or.inl ⟨by rfl, ?_⟩) ?_
        · intro u; go_simp
        try simp only [Act.put, List.setIfInBounds_toArray, List.set_cons_zero, List.set_cons_succ]
        refine wpAny_ready (rs := [21]) (by kernel_rfl) (by simp) ?_
        refine AllReady.cons rfl (fun K hK => ?_) AllReady.nil
        go_simp
        refine hK _ _ ?_
        clear hK K
        try simp only [Act.put, List.setIfInBounds_toArray, List.set_cons_zero, List.set_cons_succ]
        refine wpAny_done (by kernel_rfl) ?_ _
        go_wp2
        go_meet
        exact ⟨rfl, w.heap.size + 1, rfl, hide (early_fr hb1)⟩
  case rest =>
    obtain ⟨rfl, b, rfl, HF⟩ := hcut
    rename World => wc
    have hwb : w.heap.size < b := (unhide HF).1
    have hbc : b < wc.heap.size := (unhide HF).2.1
    have hnb : ¬ w.heap.size = b := by omega
    have hnb2 : ¬ b = w.heap.size := by omega
    obtain ⟨B, hB⟩ : ∃ B, B = wc.heap.size := ⟨_, rfl⟩
    have hBb : b < B := by omega
    have HB := hide hB
    have HO1 := hide (unhide HOP wc (.slice none 0 0) [] B (Nat.le_of_eq hB) (Or.inl ⟨rfl, rfl⟩) (by simp [heavy]))
    clear hB hbc HOP
    try clear i0
    go_wp2_with fail
    refine (unhide HO1).mono ?_
    rintro ee w1 ⟨hbw1, hres⟩
    have HF1 := hide ((unhide HF).later hbw1 (Nat.le_refl _))
    have hBw1 : B ≤ w1.heap.size := by rw [unhide HB]; exact hbw1.size
    clear hbw1 HF HO1 HB
    cases hp : pieces m4 with
    | none =>
      rw [hp] at hres
      simp only at hres
      subst hres
      obtain ⟨zc0, zc1, zc2, zc3, zc4, zc5, zc6, zc7, zc8, zc9, zc10, zc11, zf⟩ := (unhide HF1).zero
      obtain ⟨U, hU, u0, u1, u2, u3, u4, u5, u6, u7, u8, u9, u10, u11, hUB⟩ := (unhide HF1).bad
      have HUB := hide hUB
      have HKE := hide (optK_none m4 sh sf hp)
      clear hUB
      go_wp2
      rw [← hU]
      refine bodyPost_ret (v := .tuple #[.agg #[.bool false, .int .u32 0, .int .u32 0, .int .u32 0, .int .u32 0, .int .u8 0, .int .u8 0, .int .u8 0, .int .u8 0, .int .u8 0, .int .u8 0, .slice none 0 0], .int .i64 1]) (by simp [results, Try.results32, go_sem, u0, u1, u2, u3, u4, u5, u6, u7, u8, u9, u10, u11]) rfl ?_
      unfold RefP; rw [unhide HKE]; exact ⟨unhide HUB, by rw [if_neg (by decide)]; rfl⟩
    | some ps =>
      rw [hp] at hres
      obtain ⟨v1, rfl, hv1⟩ := hres
      have hph := heavy_pieces _ m4 ps (Nat.le_refl _) hp
      have hq0 : heavy ([] : List Pc) = 0 := rfl
      have hLh := heavy_addAll ps []
      obtain ⟨L1, hL1⟩ : ∃ L, L = addAll [] ps := ⟨_, rfl⟩
      rw [← hL1] at hv1 hLh
      have hLl : L1.length ≤ heavy L1 := by unfold heavy; omega
      have hLm : heavy L1 ≤ 1048000 := by omega
      clear hph hLh hq0
      obtain ⟨a1, c1, rfl, hA1⟩ := hv1.slice
      have HV1 := hide hv1
      have HP := hide hp
      have HL1 := hide hL1
      clear hv1 hp
      cases hh : has ps 52 with
      | false =>
        have hlk : look L1 52 = none := by rw [hL1, look_all, hh]; rfl
        have hot := option_ref a1 c1 L1 w1 hA1 (by omega)
        rw [hlk] at hot
        simp only [Option.getD_none, Option.isSome_none] at hot
        have HOT := hide hot
        have HK0 := hide (opt_plain m4 sh sf ps (unhide HP) hh)
        rw [← hL1] at HK0
        clear hot hlk hA1 hL1 hh
        go_wp2_with fail
        refine (unhide HOT).mono ?_
        rintro ee w2 ⟨rfl, hbw2⟩
        have HF2 := hide ((unhide HF1).later hbw2 (Nat.le_refl _))
        have HV2 := hide ((unhide HV1).below hbw2 (Nat.le_refl _))
        clear hbw2
        obtain ⟨zc0, zc1, zc2, zc3, zc4, zc5, zc6, zc7, zc8, zc9, zc10, zc11, zf⟩ := (unhide HF2).zero
        obtain ⟨bc0, bc1, bc2, bc3, bc4, bc5, bc6, bc7, bc8, bc9, bc10, bc11, bf⟩ := (unhide HF2).vals
        obtain ⟨U, hU, u0, u1, u2, u3, u4, u5, u6, u7, u8, u9, u10, u11, hUB, hUH⟩ := (unhide HF2).good (.slice a1 L1.length c1)
        have HUB := hide hUB; have HUH := hide (hUH B _ hBb (unhide HV2)); have HKE := hide (unhide HK0)
        clear hUB hUH
        go_wp2
        rw [← hU]
        refine bodyPost_ret (v := .tuple #[.agg #[.bool rp, .int .u32 x4, .int .u32 x12, .int .u32 x16, .int .u32 x20, .int .u8 a28.toNat, .int .u8 a29.toNat, .int .u8 a30.toNat, .int .u8 a31.toNat, .int .u8 a32.toNat, .int .u8 a33.toNat, (.slice a1 L1.length c1)], .int .i64 0]) (by simp [results, Try.results32, go_sem, u0, u1, u2, u3, u4, u5, u6, u7, u8, u9, u10, u11]) rfl ?_
        unfold RefP; rw [(unhide HKE).1, if_pos rfl]; refine ⟨unhide HUB, _, rfl, ?_⟩
        rw [(unhide HKE).2]; exact (unhide HUH).mono (by omega)
      | true =>
        obtain ⟨d, hd⟩ : ∃ d, d = data ps 52 := ⟨_, rfl⟩
        have hlk : look L1 52 = some d := by rw [hL1, look_all, hh, hd]; rfl
        obtain ⟨sd, hsd⟩ : ∃ sd : ByteArray, sd = ⟨d.toArray⟩ := ⟨_, rfl⟩
        have hot := option_ref a1 c1 L1 w1 hA1 (by omega)
        rw [hlk] at hot
        simp only [Option.getD_some, Option.isSome_some, ← hsd] at hot
        have HOT := hide hot
        have HHH := hide hh
        have HDD := hide hd
        clear hot hlk hL1 hh
        go_wp2_with fail
        refine (unhide HOT).mono ?_
        rintro ee w2 ⟨rfl, hbw2⟩
        have HF2 := hide ((unhide HF1).later hbw2 (Nat.le_refl _))
        have HA2 := hide (hA1.below hbw2 (Nat.le_refl _))
        have hBw2 : B ≤ w2.heap.size := Nat.le_trans hBw1 hbw2.size
        clear hbw2 hA1 HOT HF1 HV1
        cases ha : areaD d with
        | false =>
          have HK2 := hide (optK_bad m4 sh sf ps (unhide HP) (unhide HHH) (by rw [← unhide HDD]; exact ha))
          rcases bad_area d ha with hl | ⟨x, hx, hxx⟩
          · have hne : (((sd.size : Nat) : Int) != 1) = true := by
              have q : sd.size = d.length := by rw [hsd]; simp [ByteArray.size]
              simp only [bne_iff_ne, ne_eq]; omega
            clear hsd hd hl ha
            obtain ⟨zc0, zc1, zc2, zc3, zc4, zc5, zc6, zc7, zc8, zc9, zc10, zc11, zf⟩ := (unhide HF2).zero
            obtain ⟨U, hU, u0, u1, u2, u3, u4, u5, u6, u7, u8, u9, u10, u11, hUB⟩ := (unhide HF2).bad
            have HUB := hide hUB
            have HKE := hide (unhide HK2)
            clear hUB
            go_wp2
            rw [← hU]
            refine bodyPost_ret (v := .tuple #[.agg #[.bool false, .int .u32 0, .int .u32 0, .int .u32 0, .int .u32 0, .int .u8 0, .int .u8 0, .int .u8 0, .int .u8 0, .int .u8 0, .int .u8 0, .slice none 0 0], .int .i64 2]) (by simp [results, Try.results32, go_sem, u0, u1, u2, u3, u4, u5, u6, u7, u8, u9, u10, u11]) rfl ?_
            unfold RefP; rw [unhide HKE]; exact ⟨unhide HUB, by rw [if_neg (by decide)]; rfl⟩
          · have hss : sd = ⟨#[x]⟩ := by rw [hsd, hx]
            have hne : (((sd.size : Nat) : Int) != 1) = false := by rw [hss]; rfl
            have ix : ∀ u, (Instr.index 9 (.string sd) (.int .i64 0)).run Try.prog u = .ok (.int .u8 x.toNat) u := fun u => by rw [hss]; exact idx_one x u
            have hs0 : (0 : Int) < ((sd.size : Nat) : Int) := by rw [hss]; show (0 : Int) < 1; omega
            clear hsd hd ha hx hss
            rcases hxx with hx1 | hx3
            · have y1 : decide (((x.toNat : Nat) : Int) < 1) = true := by simp; omega
              obtain ⟨zc0, zc1, zc2, zc3, zc4, zc5, zc6, zc7, zc8, zc9, zc10, zc11, zf⟩ := (unhide HF2).zero
              obtain ⟨U, hU, u0, u1, u2, u3, u4, u5, u6, u7, u8, u9, u10, u11, hUB⟩ := (unhide HF2).bad
              have HUB := hide hUB
              have HKE := hide (unhide HK2)
              clear hUB
              go_wp2
              rw [← hU]
              refine bodyPost_ret (v := .tuple #[.agg #[.bool false, .int .u32 0, .int .u32 0, .int .u32 0, .int .u32 0, .int .u8 0, .int .u8 0, .int .u8 0, .int .u8 0, .int .u8 0, .int .u8 0, .slice none 0 0], .int .i64 2]) (by simp [results, Try.results32, go_sem, u0, u1, u2, u3, u4, u5, u6, u7, u8, u9, u10, u11]) rfl ?_
              unfold RefP; rw [unhide HKE]; exact ⟨unhide HUB, by rw [if_neg (by decide)]; rfl⟩
            · have y1 : decide (((x.toNat : Nat) : Int) < 1) = false := by simp; omega
              have y3 : decide ((3 : Int) < ((x.toNat : Nat) : Int)) = true := by simp; omega
              obtain ⟨zc0, zc1, zc2, zc3, zc4, zc5, zc6, zc7, zc8, zc9, zc10, zc11, zf⟩ := (unhide HF2).zero
              obtain ⟨U, hU, u0, u1, u2, u3, u4, u5, u6, u7, u8, u9, u10, u11, hUB⟩ := (unhide HF2).bad
              have HUB := hide hUB
              have HKE := hide (unhide HK2)
              clear hUB
              go_wp2
              rw [← hU]
              refine bodyPost_ret (v := .tuple #[.agg #[.bool false, .int .u32 0, .int .u32 0, .int .u32 0, .int .u32 0, .int .u8 0, .int .u8 0, .int .u8 0, .int .u8 0, .int .u8 0, .int .u8 0, .slice none 0 0], .int .i64 2]) (by simp [results, Try.results32, go_sem, u0, u1, u2, u3, u4, u5, u6, u7, u8, u9, u10, u11]) rfl ?_
              unfold RefP; rw [unhide HKE]; exact ⟨unhide HUB, by rw [if_neg (by decide)]; rfl⟩
        | true =>
          obtain ⟨x, hx, hxx⟩ := good_area d ha
          have hss : sd = ⟨#[x]⟩ := by rw [hsd, hx]
          have hne : (((sd.size : Nat) : Int) != 1) = false := by rw [hss]; rfl
          have ix : ∀ u, (Instr.index 9 (.string sd) (.int .i64 0)).run Try.prog u = .ok (.int .u8 x.toNat) u := fun u => by rw [hss]; exact idx_one x u
          have y1 : decide (((x.toNat : Nat) : Int) < 1) = false := by simp; omega
          have y3 : decide ((3 : Int) < ((x.toNat : Nat) : Int)) = false := by simp; omega
          have HDX := hide hx
          have HAD := hide ha
          obtain ⟨i0, hi, hz0, hz1, hz2⟩ := info_parts infoOpt
          clear hsd hd ha hx hss
          go_wp2
          go_loopw [9, 92] (fun v9 i wr => ∃ k : Nat, k ≤ L1.length ∧ i = .int .i64 k ∧ (drop (L1.take k) 52).length ≤ k ∧ Hid (wr.ownsRow w2.heap.size 87 2 v9 (drop (L1.take k) 52).length (cellsO (drop (L1.take k) 52))) ∧ Hid (Below w2.heap.size w2 wr)) (fun _ i _ => L1.length - (intOf i).toNat)
          case atStart => exact ⟨0, Nat.zero_le _, rfl, Nat.le_refl _, hide (World.ownsRow_nil _ _ _ _), hide (Below.refl _ _)⟩
          case round =>
            obtain ⟨k, hk, rfl, hdk, HO, HW⟩ := hrel
            rename World => wr
            have hwz := (unhide HW).size
            by_cases hlt : k < L1.length
            · obtain ⟨ad, rfl, c0, c1⟩ := (unhide HA2).below (unhide HW) (Nat.le_refl _) k hlt
              obtain ⟨oc, od, hcd⟩ : ∃ x y, L1[k] = (x, y) := ⟨_, _, rfl⟩
              have hdt := drop_take L1 52 k hlt
              rw [hcd] at c0 c1 hdt
              simp only at c0 c1 hdt
              have HD := hide hdt
              clear hcd hdt
              by_cases e : oc = 52
              · have q : (((oc.toNat : Nat) : Int) != 52) = false := by rw [e]; rfl
                rw [if_pos e, List.append_nil] at HD
                clear e
                go_wp2
                go_roundw
                case rel => exact ⟨k + 1, by omega, by go_num, by rw [unhide HD]; omega, hide (by rw [unhide HD]; exact (unhide HO).alloc _), hide ((unhide HW).alloc hwz _)⟩
                case measure => simp [intOf]; omega
              · have q : (((oc.toNat : Nat) : Int) != 52) = true := by
                  have q1 := toNat_eq oc 52
                  have q2 : (((52 : UInt8).toNat : Nat) : Int) = 52 := rfl
                  rw [q2] at q1
                  rw [bne, q1]; simpa using e
                rw [if_neg e] at HD
                clear e
                go_wp2_with (at_builtin; refine wpList_append_own _ rfl (.tmp 99) (.tmp 101) 55 rfl w2.heap.size 87 i0 (.agg #[.int .u8 0, .string ⟨#[]⟩]) 2 24 Try.underlying55 hi hz0 hz1 hz2 rfl (by decide) _ _ _ rfl (((unhide HO).alloc _).alloc _) ⟨wr.heap.size + 1, 0, none⟩ 1 1 [.int .u8 oc.toNat, .string ⟨od.toArray⟩] rfl rfl ?c1 ?one ?h63 ?hby ?hba ?_)
                case c1 =>
                  have q := cell_new (wr.alloc (.cells #[.int .u8 oc.toNat, .string ⟨od.toArray⟩] 87)) [.int .u8 oc.toNat, .string ⟨od.toArray⟩] 87
                  simpa using q
                case one => intro u hu; simp at hu; rcases hu with rfl | rfl <;> rfl
                case h63 => simp only [maxLen]; omega
                case hby => omega
                case hba => simp; omega
                · intro v' w3 hown hg _
                  have hnew : ∀ x, Value.ownBlock _ = some x → w2.heap.size ≤ x := fun x hx => ((unhide HO).lt x hx).1
                  have hB3 : Below w2.heap.size w2 w3 := (((unhide HW).alloc hwz _).alloc (by simp; omega) _).grown hg (by simp; omega) hnew
                  have hO3 : w3.ownsRow w2.heap.size 87 2 v' (drop (L1.take (k + 1)) 52).length (cellsO (drop (L1.take (k + 1)) 52)) := by
                    rw [unhide HD, List.length_append, cellsO_append]; exact hown
                  have O1 := hide hO3
                  have B1 := hide hB3
                  clear hown hg hnew hB3 hO3
                  go_wp2
                  go_roundw
                  case rel => exact ⟨k + 1, by omega, by go_num, by rw [unhide HD, List.length_append, List.length_cons, List.length_nil]; omega, O1, B1⟩
                  case measure => simp [intOf]; omega
            · have e : k = L1.length := by omega
              subst e
              rw [List.take_length] at HO
              have hXh := heavy_drop 52 L1
              have HXN := hide (has_drop 52 L1)
              obtain ⟨X, hX⟩ : ∃ X, X = drop L1 52 := ⟨_, rfl⟩
              rw [← hX] at HO hXh HXN
              obtain ⟨a9, c9, hv⟩ := own_slice (unhide HO)
              subst hv
              have HX9 : Hid (Has B wr (.slice a9 X.length c9) X) := hide ((Has.own (unhide HO)).mono hBw2)
              have HF3 := hide ((unhide HF2).later (unhide HW) (Nat.le_refl _))
              have hBw3 : B ≤ wr.heap.size := Nat.le_trans hBw2 hwz
              have hXD : Hid (∀ m, addAll X m = addAll (drop (addAll [] ps) 52) m) := hide (fun m => by rw [hX, unhide HL1])
              clear hX HO HW HF2 HA2 hi hz0 hz1 hz2 hlt hk hdk
              rcases hxx with hx1 | hx1 | hx1
              · rw [hx1] at ix y1 y3
                have HINF : Hid (inF (data ps 52) = true ∧ inH (data ps 52) = false ∧ areaD (data ps 52) = true) := hide (by rw [← unhide HDD, unhide HDX]; refine ⟨by simp [inF, hx1], by simp [inH, hx1], ?_⟩; rw [← unhide HDX]; exact unhide HAD)
                clear hx1
                have HOF1 := hide (unhide HOF wr (.slice a9 X.length c9) X B hBw3 (unhide HX9) (by omega))
                go_wp2_with fail
                refine (unhide HOF1).mono ?_
                rintro ee wF1 ⟨hbF1, hres⟩
                have HFF1 := hide ((unhide HF3).later hbF1 (Nat.le_refl _))
                have hBwF1 : B ≤ wF1.heap.size := Nat.le_trans hBw3 hbF1.size
                clear hbF1 HOF1
                cases hpF1 : pieces sf.data.toList with
                | none =>
                  rw [hpF1] at hres
                  simp only at hres
                  subst hres
                  have HPF := hide hpF1
                  obtain ⟨zc0, zc1, zc2, zc3, zc4, zc5, zc6, zc7, zc8, zc9, zc10, zc11, zf⟩ := (unhide HFF1).zero
                  obtain ⟨U, hU, u0, u1, u2, u3, u4, u5, u6, u7, u8, u9, u10, u11, hUB⟩ := (unhide HFF1).bad
                  have HUB := hide hUB
                  have HKE := hide (opt_short m4 sh sf ps (unhide HP) (unhide HHH) (unhide HINF).2.2 (by rw [(unhide HINF).1, (unhide HINF).2.1]; simp [moreP, unhide HPF]))
                  clear hUB
                  go_wp2
                  rw [← hU]
                  refine bodyPost_ret (v := .tuple #[.agg #[.bool false, .int .u32 0, .int .u32 0, .int .u32 0, .int .u32 0, .int .u8 0, .int .u8 0, .int .u8 0, .int .u8 0, .int .u8 0, .int .u8 0, .slice none 0 0], .int .i64 1]) (by simp [results, Try.results32, go_sem, u0, u1, u2, u3, u4, u5, u6, u7, u8, u9, u10, u11]) rfl ?_
                  unfold RefP; rw [unhide HKE]; exact ⟨unhide HUB, by rw [if_neg (by decide)]; rfl⟩
                | some qF1 =>
                  rw [hpF1] at hres
                  obtain ⟨vF1, rfl, hvF1⟩ := hres
                  have HPF := hide hpF1
                  have hqF1 := heavy_pieces _ sf.data.toList qF1 (Nat.le_refl _) hpF1
                  have hsF1 : sf.data.toList.length ≤ 128 := unhide HZF
                  have hYF1 := heavy_addAll qF1 X
                  have HXF1 := hide (has_all X qF1)
                  obtain ⟨YF1, hY⟩ : ∃ Y, Y = addAll X qF1 := ⟨_, rfl⟩
                  rw [← hY] at hvF1 hYF1 HXF1
                  have HYF1 := hide hY
                  obtain ⟨aF1, cF1, rfl, hAF1⟩ := hvF1.slice
                  have HVF1 := hide hvF1
                  have HAF1 := hide hAF1
                  clear hvF1 hpF1 hY hAF1
                  have hLF1 : YF1.length ≤ heavy YF1 := by unfold heavy; omega
                  have hhm : has YF1 52 = has qF1 52 := unhide HXF1 (unhide HXN)
                  have hYa : YF1 = addAll (drop (addAll [] ps) 52) qF1 := (unhide HYF1).trans (unhide hXD _)
                  have hot := option_ref aF1 cF1 YF1 wF1 (unhide HAF1) (by omega)
                  have HYA := hide hYa
                  clear hYa
                  cases hm : has qF1 52 with
                  | true =>
                    obtain ⟨d2, hd2⟩ := look_some (hhm.trans hm)
                    rw [hd2] at hot
                    simp only [Option.getD_some, Option.isSome_some] at hot
                    obtain ⟨sd2, hsd2⟩ : ∃ sd : ByteArray, sd = ⟨d2.toArray⟩ := ⟨_, rfl⟩
                    rw [← hsd2] at hot
                    have HOT := hide hot
                    have HMM := hide hm
                    clear hot hd2 hsd2 hhm hm
                    go_wp2_with fail
                    refine (unhide HOT).mono ?_
                    rintro ee w9 ⟨rfl, hb9⟩
                    have HF9 := hide ((unhide HFF1).later hb9 (Nat.le_refl _))
                    clear hb9
                    obtain ⟨zc0, zc1, zc2, zc3, zc4, zc5, zc6, zc7, zc8, zc9, zc10, zc11, zf⟩ := (unhide HF9).zero
                    obtain ⟨U, hU, u0, u1, u2, u3, u4, u5, u6, u7, u8, u9, u10, u11, hUB⟩ := (unhide HF9).bad
                    have HUB := hide hUB
                    have HKE := hide (opt_twice m4 sh sf ps qF1 (unhide HP) (unhide HHH) (unhide HINF).2.2 (by rw [(unhide HINF).1, (unhide HINF).2.1]; simp [moreP, unhide HPF]) (unhide HMM))
                    clear hUB
                    go_wp2
                    rw [← hU]
                    refine bodyPost_ret (v := .tuple #[.agg #[.bool false, .int .u32 0, .int .u32 0, .int .u32 0, .int .u32 0, .int .u8 0, .int .u8 0, .int .u8 0, .int .u8 0, .int .u8 0, .int .u8 0, .slice none 0 0], .int .i64 2]) (by simp [results, Try.results32, go_sem, u0, u1, u2, u3, u4, u5, u6, u7, u8, u9, u10, u11]) rfl ?_
                    unfold RefP; rw [unhide HKE]; exact ⟨unhide HUB, by rw [if_neg (by decide)]; rfl⟩
                  | false =>
                    have hd2 := look_none (hhm.trans hm)
                    rw [hd2] at hot
                    simp only [Option.getD_none, Option.isSome_none] at hot
                    have HOT := hide hot
                    have HMM := hide hm
                    clear hot hd2 hhm hm
                    go_wp2_with fail
                    refine (unhide HOT).mono ?_
                    rintro ee w9 ⟨rfl, hb9⟩
                    have HF9 := hide ((unhide HFF1).later hb9 (Nat.le_refl _))
                    have HV9 := hide ((unhide HVF1).below hb9 (Nat.le_refl _))
                    have HK9 := opt_all m4 sh sf ps qF1 (unhide HP) (unhide HHH) (unhide HINF).2.2 (by rw [(unhide HINF).1, (unhide HINF).2.1]; simp [moreP, unhide HPF]) (unhide HMM)
                    rw [← unhide HYA] at HK9
                    have HK8 := hide HK9
                    clear hb9 HK9
                    obtain ⟨zc0, zc1, zc2, zc3, zc4, zc5, zc6, zc7, zc8, zc9, zc10, zc11, zf⟩ := (unhide HF9).zero
                    obtain ⟨bc0, bc1, bc2, bc3, bc4, bc5, bc6, bc7, bc8, bc9, bc10, bc11, bf⟩ := (unhide HF9).vals
                    obtain ⟨U, hU, u0, u1, u2, u3, u4, u5, u6, u7, u8, u9, u10, u11, hUB, hUH⟩ := (unhide HF9).good (.slice aF1 YF1.length cF1)
                    have HUB := hide hUB; have HUH := hide (hUH B _ hBb (unhide HV9)); have HKE := hide (unhide HK8)
                    clear hUB hUH
                    go_wp2
                    rw [← hU]
                    refine bodyPost_ret (v := .tuple #[.agg #[.bool rp, .int .u32 x4, .int .u32 x12, .int .u32 x16, .int .u32 x20, .int .u8 a28.toNat, .int .u8 a29.toNat, .int .u8 a30.toNat, .int .u8 a31.toNat, .int .u8 a32.toNat, .int .u8 a33.toNat, (.slice aF1 YF1.length cF1)], .int .i64 0]) (by simp [results, Try.results32, go_sem, u0, u1, u2, u3, u4, u5, u6, u7, u8, u9, u10, u11]) rfl ?_
                    unfold RefP; rw [(unhide HKE).1, if_pos rfl]; refine ⟨unhide HUB, _, rfl, ?_⟩
                    rw [(unhide HKE).2]; exact (unhide HUH).mono (by omega)
              · rw [hx1] at ix y1 y3
                have HINF : Hid (inF (data ps 52) = false ∧ inH (data ps 52) = true ∧ areaD (data ps 52) = true) := hide (by rw [← unhide HDD, unhide HDX]; refine ⟨by simp [inF, hx1], by simp [inH, hx1], ?_⟩; rw [← unhide HDX]; exact unhide HAD)
                clear hx1
                have HOH2 := hide (unhide HOH wr (.slice a9 X.length c9) X B hBw3 (unhide HX9) (by omega))
                go_wp2_with fail
                refine (unhide HOH2).mono ?_
                rintro ee wH2 ⟨hbH2, hres⟩
                have HFH2 := hide ((unhide HF3).later hbH2 (Nat.le_refl _))
                have hBwH2 : B ≤ wH2.heap.size := Nat.le_trans hBw3 hbH2.size
                clear hbH2 HOH2
                cases hpH2 : pieces sh.data.toList with
                | none =>
                  rw [hpH2] at hres
                  simp only at hres
                  subst hres
                  have HPH := hide hpH2
                  obtain ⟨zc0, zc1, zc2, zc3, zc4, zc5, zc6, zc7, zc8, zc9, zc10, zc11, zf⟩ := (unhide HFH2).zero
                  obtain ⟨U, hU, u0, u1, u2, u3, u4, u5, u6, u7, u8, u9, u10, u11, hUB⟩ := (unhide HFH2).bad
                  have HUB := hide hUB
                  have HKE := hide (opt_short m4 sh sf ps (unhide HP) (unhide HHH) (unhide HINF).2.2 (by rw [(unhide HINF).1, (unhide HINF).2.1]; simp [moreP, unhide HPH]))
                  clear hUB
                  go_wp2
                  rw [← hU]
                  refine bodyPost_ret (v := .tuple #[.agg #[.bool false, .int .u32 0, .int .u32 0, .int .u32 0, .int .u32 0, .int .u8 0, .int .u8 0, .int .u8 0, .int .u8 0, .int .u8 0, .int .u8 0, .slice none 0 0], .int .i64 1]) (by simp [results, Try.results32, go_sem, u0, u1, u2, u3, u4, u5, u6, u7, u8, u9, u10, u11]) rfl ?_
                  unfold RefP; rw [unhide HKE]; exact ⟨unhide HUB, by rw [if_neg (by decide)]; rfl⟩
                | some qH2 =>
                  rw [hpH2] at hres
                  obtain ⟨vH2, rfl, hvH2⟩ := hres
                  have HPH := hide hpH2
                  have hqH2 := heavy_pieces _ sh.data.toList qH2 (Nat.le_refl _) hpH2
                  have hsH2 : sh.data.toList.length ≤ 128 := unhide HZH
                  have hYH2 := heavy_addAll qH2 X
                  have HXH2 := hide (has_all X qH2)
                  obtain ⟨YH2, hY⟩ : ∃ Y, Y = addAll X qH2 := ⟨_, rfl⟩
                  rw [← hY] at hvH2 hYH2 HXH2
                  have HYH2 := hide hY
                  obtain ⟨aH2, cH2, rfl, hAH2⟩ := hvH2.slice
                  have HVH2 := hide hvH2
                  have HAH2 := hide hAH2
                  clear hvH2 hpH2 hY hAH2
                  have hLH2 : YH2.length ≤ heavy YH2 := by unfold heavy; omega
                  have hhm : has YH2 52 = has qH2 52 := unhide HXH2 (unhide HXN)
                  have hYa : YH2 = addAll (drop (addAll [] ps) 52) qH2 := (unhide HYH2).trans (unhide hXD _)
                  have hot := option_ref aH2 cH2 YH2 wH2 (unhide HAH2) (by omega)
                  have HYA := hide hYa
                  clear hYa
                  cases hm : has qH2 52 with
                  | true =>
                    obtain ⟨d2, hd2⟩ := look_some (hhm.trans hm)
                    rw [hd2] at hot
                    simp only [Option.getD_some, Option.isSome_some] at hot
                    obtain ⟨sd2, hsd2⟩ : ∃ sd : ByteArray, sd = ⟨d2.toArray⟩ := ⟨_, rfl⟩
                    rw [← hsd2] at hot
                    have HOT := hide hot
                    have HMM := hide hm
                    clear hot hd2 hsd2 hhm hm
                    go_wp2_with fail
                    refine (unhide HOT).mono ?_
                    rintro ee w9 ⟨rfl, hb9⟩
                    have HF9 := hide ((unhide HFH2).later hb9 (Nat.le_refl _))
                    clear hb9
                    obtain ⟨zc0, zc1, zc2, zc3, zc4, zc5, zc6, zc7, zc8, zc9, zc10, zc11, zf⟩ := (unhide HF9).zero
                    obtain ⟨U, hU, u0, u1, u2, u3, u4, u5, u6, u7, u8, u9, u10, u11, hUB⟩ := (unhide HF9).bad
                    have HUB := hide hUB
                    have HKE := hide (opt_twice m4 sh sf ps qH2 (unhide HP) (unhide HHH) (unhide HINF).2.2 (by rw [(unhide HINF).1, (unhide HINF).2.1]; simp [moreP, unhide HPH]) (unhide HMM))
                    clear hUB
                    go_wp2
                    rw [← hU]
                    refine bodyPost_ret (v := .tuple #[.agg #[.bool false, .int .u32 0, .int .u32 0, .int .u32 0, .int .u32 0, .int .u8 0, .int .u8 0, .int .u8 0, .int .u8 0, .int .u8 0, .int .u8 0, .slice none 0 0], .int .i64 2]) (by simp [results, Try.results32, go_sem, u0, u1, u2, u3, u4, u5, u6, u7, u8, u9, u10, u11]) rfl ?_
                    unfold RefP; rw [unhide HKE]; exact ⟨unhide HUB, by rw [if_neg (by decide)]; rfl⟩
                  | false =>
                    have hd2 := look_none (hhm.trans hm)
                    rw [hd2] at hot
                    simp only [Option.getD_none, Option.isSome_none] at hot
                    have HOT := hide hot
                    have HMM := hide hm
                    clear hot hd2 hhm hm
                    go_wp2_with fail
                    refine (unhide HOT).mono ?_
                    rintro ee w9 ⟨rfl, hb9⟩
                    have HF9 := hide ((unhide HFH2).later hb9 (Nat.le_refl _))
                    have HV9 := hide ((unhide HVH2).below hb9 (Nat.le_refl _))
                    have HK9 := opt_all m4 sh sf ps qH2 (unhide HP) (unhide HHH) (unhide HINF).2.2 (by rw [(unhide HINF).1, (unhide HINF).2.1]; simp [moreP, unhide HPH]) (unhide HMM)
                    rw [← unhide HYA] at HK9
                    have HK8 := hide HK9
                    clear hb9 HK9
                    obtain ⟨zc0, zc1, zc2, zc3, zc4, zc5, zc6, zc7, zc8, zc9, zc10, zc11, zf⟩ := (unhide HF9).zero
                    obtain ⟨bc0, bc1, bc2, bc3, bc4, bc5, bc6, bc7, bc8, bc9, bc10, bc11, bf⟩ := (unhide HF9).vals
                    obtain ⟨U, hU, u0, u1, u2, u3, u4, u5, u6, u7, u8, u9, u10, u11, hUB, hUH⟩ := (unhide HF9).good (.slice aH2 YH2.length cH2)
                    have HUB := hide hUB; have HUH := hide (hUH B _ hBb (unhide HV9)); have HKE := hide (unhide HK8)
                    clear hUB hUH
                    go_wp2
                    rw [← hU]
                    refine bodyPost_ret (v := .tuple #[.agg #[.bool rp, .int .u32 x4, .int .u32 x12, .int .u32 x16, .int .u32 x20, .int .u8 a28.toNat, .int .u8 a29.toNat, .int .u8 a30.toNat, .int .u8 a31.toNat, .int .u8 a32.toNat, .int .u8 a33.toNat, (.slice aH2 YH2.length cH2)], .int .i64 0]) (by simp [results, Try.results32, go_sem, u0, u1, u2, u3, u4, u5, u6, u7, u8, u9, u10, u11]) rfl ?_
                    unfold RefP; rw [(unhide HKE).1, if_pos rfl]; refine ⟨unhide HUB, _, rfl, ?_⟩
                    rw [(unhide HKE).2]; exact (unhide HUH).mono (by omega)
              · rw [hx1] at ix y1 y3
                have HINF : Hid (inF (data ps 52) = true ∧ inH (data ps 52) = true ∧ areaD (data ps 52) = true) := hide (by rw [← unhide HDD, unhide HDX]; refine ⟨by simp [inF, hx1], by simp [inH, hx1], ?_⟩; rw [← unhide HDX]; exact unhide HAD)
                clear hx1
                have HOF3 := hide (unhide HOF wr (.slice a9 X.length c9) X B hBw3 (unhide HX9) (by omega))
                go_wp2_with fail
                refine (unhide HOF3).mono ?_
                rintro ee wF3 ⟨hbF3, hres⟩
                have HFF3 := hide ((unhide HF3).later hbF3 (Nat.le_refl _))
                have hBwF3 : B ≤ wF3.heap.size := Nat.le_trans hBw3 hbF3.size
                clear hbF3 HOF3
                cases hpF3 : pieces sf.data.toList with
                | none =>
                  rw [hpF3] at hres
                  simp only at hres
                  subst hres
                  have HPF := hide hpF3
                  obtain ⟨zc0, zc1, zc2, zc3, zc4, zc5, zc6, zc7, zc8, zc9, zc10, zc11, zf⟩ := (unhide HFF3).zero
                  obtain ⟨U, hU, u0, u1, u2, u3, u4, u5, u6, u7, u8, u9, u10, u11, hUB⟩ := (unhide HFF3).bad
                  have HUB := hide hUB
                  have HKE := hide (opt_short m4 sh sf ps (unhide HP) (unhide HHH) (unhide HINF).2.2 (by rw [(unhide HINF).1, (unhide HINF).2.1]; simp [moreP, unhide HPF]))
                  clear hUB
                  go_wp2
                  rw [← hU]
                  refine bodyPost_ret (v := .tuple #[.agg #[.bool false, .int .u32 0, .int .u32 0, .int .u32 0, .int .u32 0, .int .u8 0, .int .u8 0, .int .u8 0, .int .u8 0, .int .u8 0, .int .u8 0, .slice none 0 0], .int .i64 1]) (by simp [results, Try.results32, go_sem, u0, u1, u2, u3, u4, u5, u6, u7, u8, u9, u10, u11]) rfl ?_
                  unfold RefP; rw [unhide HKE]; exact ⟨unhide HUB, by rw [if_neg (by decide)]; rfl⟩
                | some qF3 =>
                  rw [hpF3] at hres
                  obtain ⟨vF3, rfl, hvF3⟩ := hres
                  have HPF := hide hpF3
                  have hqF3 := heavy_pieces _ sf.data.toList qF3 (Nat.le_refl _) hpF3
                  have hsF3 : sf.data.toList.length ≤ 128 := unhide HZF
                  have hYF3 := heavy_addAll qF3 X
                  have HXF3 := hide (has_all X qF3)
                  obtain ⟨YF3, hY⟩ : ∃ Y, Y = addAll X qF3 := ⟨_, rfl⟩
                  rw [← hY] at hvF3 hYF3 HXF3
                  have HYF3 := hide hY
                  obtain ⟨aF3, cF3, rfl, hAF3⟩ := hvF3.slice
                  have HVF3 := hide hvF3
                  have HAF3 := hide hAF3
                  clear hvF3 hpF3 hY hAF3
                  have hLF3 : YF3.length ≤ heavy YF3 := by unfold heavy; omega
                  have HOH3 := hide (unhide HOH wF3 (.slice aF3 YF3.length cF3) YF3 B hBwF3 (unhide HVF3) (by omega))
                  go_wp2_with fail
                  refine (unhide HOH3).mono ?_
                  rintro ee wH3 ⟨hbH3, hres⟩
                  have HFH3 := hide ((unhide HFF3).later hbH3 (Nat.le_refl _))
                  have hBwH3 : B ≤ wH3.heap.size := Nat.le_trans hBwF3 hbH3.size
                  clear hbH3 HOH3
                  cases hpH3 : pieces sh.data.toList with
                  | none =>
                    rw [hpH3] at hres
                    simp only at hres
                    subst hres
                    have HPH := hide hpH3
                    obtain ⟨zc0, zc1, zc2, zc3, zc4, zc5, zc6, zc7, zc8, zc9, zc10, zc11, zf⟩ := (unhide HFH3).zero
                    obtain ⟨U, hU, u0, u1, u2, u3, u4, u5, u6, u7, u8, u9, u10, u11, hUB⟩ := (unhide HFH3).bad
                    have HUB := hide hUB
                    have HKE := hide (opt_short m4 sh sf ps (unhide HP) (unhide HHH) (unhide HINF).2.2 (by rw [(unhide HINF).1, (unhide HINF).2.1]; simp [moreP, unhide HPF, unhide HPH]))
                    clear hUB
                    go_wp2
                    rw [← hU]
                    refine bodyPost_ret (v := .tuple #[.agg #[.bool false, .int .u32 0, .int .u32 0, .int .u32 0, .int .u32 0, .int .u8 0, .int .u8 0, .int .u8 0, .int .u8 0, .int .u8 0, .int .u8 0, .slice none 0 0], .int .i64 1]) (by simp [results, Try.results32, go_sem, u0, u1, u2, u3, u4, u5, u6, u7, u8, u9, u10, u11]) rfl ?_
                    unfold RefP; rw [unhide HKE]; exact ⟨unhide HUB, by rw [if_neg (by decide)]; rfl⟩
                  | some qH3 =>
                    rw [hpH3] at hres
                    obtain ⟨vH3, rfl, hvH3⟩ := hres
                    have HPH := hide hpH3
                    have hqH3 := heavy_pieces _ sh.data.toList qH3 (Nat.le_refl _) hpH3
                    have hsH3 : sh.data.toList.length ≤ 128 := unhide HZH
                    have hYH3 := heavy_addAll qH3 YF3
                    have HXH3 := hide (has_all YF3 qH3)
                    obtain ⟨YH3, hY⟩ : ∃ Y, Y = addAll YF3 qH3 := ⟨_, rfl⟩
                    rw [← hY] at hvH3 hYH3 HXH3
                    have HYH3 := hide hY
                    obtain ⟨aH3, cH3, rfl, hAH3⟩ := hvH3.slice
                    have HVH3 := hide hvH3
                    have HAH3 := hide hAH3
                    clear hvH3 hpH3 hY hAH3
                    have hLH3 : YH3.length ≤ heavy YH3 := by unfold heavy; omega
                    have hhm : has YH3 52 = has (qF3 ++ qH3) 52 := by rw [unhide HYH3, unhide HYF3, ← addAll_append]; exact has_all X _ (unhide HXN)
                    have hYa : YH3 = addAll (drop (addAll [] ps) 52) (qF3 ++ qH3) := by rw [unhide HYH3, unhide HYF3, ← addAll_append]; exact unhide hXD _
                    have hot := option_ref aH3 cH3 YH3 wH3 (unhide HAH3) (by omega)
                    have HYA := hide hYa
                    clear hYa
                    cases hm : has (qF3 ++ qH3) 52 with
                    | true =>
                      obtain ⟨d2, hd2⟩ := look_some (hhm.trans hm)
                      rw [hd2] at hot
                      simp only [Option.getD_some, Option.isSome_some] at hot
                      obtain ⟨sd2, hsd2⟩ : ∃ sd : ByteArray, sd = ⟨d2.toArray⟩ := ⟨_, rfl⟩
                      rw [← hsd2] at hot
                      have HOT := hide hot
                      have HMM := hide hm
                      clear hot hd2 hsd2 hhm hm
                      go_wp2_with fail
                      refine (unhide HOT).mono ?_
                      rintro ee w9 ⟨rfl, hb9⟩
                      have HF9 := hide ((unhide HFH3).later hb9 (Nat.le_refl _))
                      clear hb9
                      obtain ⟨zc0, zc1, zc2, zc3, zc4, zc5, zc6, zc7, zc8, zc9, zc10, zc11, zf⟩ := (unhide HF9).zero
                      obtain ⟨U, hU, u0, u1, u2, u3, u4, u5, u6, u7, u8, u9, u10, u11, hUB⟩ := (unhide HF9).bad
                      have HUB := hide hUB
                      have HKE := hide (opt_twice m4 sh sf ps (qF3 ++ qH3) (unhide HP) (unhide HHH) (unhide HINF).2.2 (by rw [(unhide HINF).1, (unhide HINF).2.1]; simp [moreP, unhide HPF, unhide HPH]) (unhide HMM))
                      clear hUB
                      go_wp2
                      rw [← hU]
                      refine bodyPost_ret (v := .tuple #[.agg #[.bool false, .int .u32 0, .int .u32 0, .int .u32 0, .int .u32 0, .int .u8 0, .int .u8 0, .int .u8 0, .int .u8 0, .int .u8 0, .int .u8 0, .slice none 0 0], .int .i64 2]) (by simp [results, Try.results32, go_sem, u0, u1, u2, u3, u4, u5, u6, u7, u8, u9, u10, u11]) rfl ?_
                      unfold RefP; rw [unhide HKE]; exact ⟨unhide HUB, by rw [if_neg (by decide)]; rfl⟩
                    | false =>
                      have hd2 := look_none (hhm.trans hm)
                      rw [hd2] at hot
                      simp only [Option.getD_none, Option.isSome_none] at hot
                      have HOT := hide hot
                      have HMM := hide hm
                      clear hot hd2 hhm hm
                      go_wp2_with fail
                      refine (unhide HOT).mono ?_
                      rintro ee w9 ⟨rfl, hb9⟩
                      have HF9 := hide ((unhide HFH3).later hb9 (Nat.le_refl _))
                      have HV9 := hide ((unhide HVH3).below hb9 (Nat.le_refl _))
                      have HK9 := opt_all m4 sh sf ps (qF3 ++ qH3) (unhide HP) (unhide HHH) (unhide HINF).2.2 (by rw [(unhide HINF).1, (unhide HINF).2.1]; simp [moreP, unhide HPF, unhide HPH]) (unhide HMM)
                      rw [← unhide HYA] at HK9
                      have HK8 := hide HK9
                      clear hb9 HK9
                      obtain ⟨zc0, zc1, zc2, zc3, zc4, zc5, zc6, zc7, zc8, zc9, zc10, zc11, zf⟩ := (unhide HF9).zero
                      obtain ⟨bc0, bc1, bc2, bc3, bc4, bc5, bc6, bc7, bc8, bc9, bc10, bc11, bf⟩ := (unhide HF9).vals
                      obtain ⟨U, hU, u0, u1, u2, u3, u4, u5, u6, u7, u8, u9, u10, u11, hUB, hUH⟩ := (unhide HF9).good (.slice aH3 YH3.length cH3)
                      have HUB := hide hUB; have HUH := hide (hUH B _ hBb (unhide HV9)); have HKE := hide (unhide HK8)
                      clear hUB hUH
                      go_wp2
                      rw [← hU]
                      refine bodyPost_ret (v := .tuple #[.agg #[.bool rp, .int .u32 x4, .int .u32 x12, .int .u32 x16, .int .u32 x20, .int .u8 a28.toNat, .int .u8 a29.toNat, .int .u8 a30.toNat, .int .u8 a31.toNat, .int .u8 a32.toNat, .int .u8 a33.toNat, (.slice aH3 YH3.length cH3)], .int .i64 0]) (by simp [results, Try.results32, go_sem, u0, u1, u2, u3, u4, u5, u6, u7, u8, u9, u10, u11]) rfl ?_
                      unfold RefP; rw [(unhide HKE).1, if_pos rfl]; refine ⟨unhide HUB, _, rfl, ?_⟩
                      rw [(unhide HKE).2]; exact (unhide HUH).mono (by omega)
end Go.Proofs.Ytadkcdcdgphhpaa.Dh
