import Derived.Test.YtadkcdcdgphhpaaTFRh
import Derived.Test.YtadkcdcdgphhpaaTFSame
import Derived.Test.YtadkcdcdgphhpaaTFRdN
namespace Go.Proofs.Ytadkcdcdgphhpaa.Tf
open Go.ChangeShapes Go.WideShapes Go.ChangeAt Go.RowKit Bs
set_option linter.unusedVariables false
set_option linter.unusedSimpArgs false

set_option maxHeartbeats 2000000 in
set_option maxRecDepth 10000 in
theorem law_ok (s : ByteArray) (o bl : Int) (ts ds : ByteArray) (fs : Flds) (w : World) (hm : s.size ≤ 16384) (hl : fs.length ≤ 268435456)
    (hO : ∀ u : World, Calls Try.prog 38 #[.string s] u fun ee w' => TfR.OutP fs.length (cellsF fs) u (fun sa sc => .tuple #[.agg #[.int .u16 o, .int .u16 bl, .string ts, .string ds, .slice sa fs.length sc], .int .i64 0]) ee w')
    (hR : ∀ u : World, Calls Try.prog 39 #[.string s] u fun ee w' => Below u.heap.size u w' ∧ ∃ ga gc, ee = .returned (.tuple #[.agg #[.int .u16 o, .int .u16 bl, .string ts, .string ds, .slice ga fs.length gc], .int .i64 0]) ∧ AtF w' ga fs) :
    Calls Try.prog 13 #[.string s] w fun ee w' => ee = .returned (.bool true) ∧ Below w.heap.size w w' := by
  have HO := hide hO
  have HR := hide hR
  clear hO hR
  have hgt : ¬ (16384 : Int) < (s.size : Int) := by omega
  go_enter Try.func13, Try.ntmps13
  go_wp2_with fail
  refine (unhide HO _).mono ?_
  rintro ee w1 ⟨sa, sc, rfl, hown, hb1⟩
  have HA1 := hide (AtF.own hown)
  have HB1 := hide hb1
  have hz1 := hb1.size
  clear hown hb1 HO
  go_wp2_with fail
  refine (unhide HR _).mono ?_
  rintro ee w2 ⟨hb2, ga, gc, rfl, hA2⟩
  have hc := Arp.below_cells hb2
  have HB2 := hide hb2
  have hz : w1.heap.size < w2.heap.size := by have := hb2.size; simp at this; omega
  have hAt1 : AtF w2 sa fs := ((unhide HA1).below ((Below.refl w1.heap.size w1).alloc (Nat.le_refl _) _) (Nat.le_refl _)).below hb2 (by simp)
  have HSD := hide (fun (u : World) (hb : Below w2.heap.size w2 u) => sameT_any o bl ts ds sa ga sc gc fs u (hAt1.below hb (Nat.le_refl _)) (hA2.below hb (Nat.le_refl _)) hl)
  clear hb2 HR hA2 hAt1 HA1
  go_wp2_with fail
  refine (unhide HSD _ ((Below.refl _ w2).alloc (Nat.le_refl _) _)).mono ?_
  rintro ee w3 ⟨rfl, hb3⟩
  have HB3 := hide hb3
  clear hb3 HSD
  go_wp2
  go_ret
  refine ⟨by simp, ?_⟩
  exact ((((unhide HB1).alloc hz1 _).trans ((unhide HB2).mono (by simp; omega))).alloc (by omega) _).trans ((unhide HB3).mono (by simp; omega))

set_option maxHeartbeats 2000000 in
set_option maxRecDepth 10000 in
theorem law_no (s : ByteArray) (k : Int) (w : World) (hm : s.size ≤ 16384)
    (hO : ∀ u : World, Calls Try.prog 38 #[.string s] u fun ee w' => ee = .returned (.tuple #[.agg #[.int .u16 0, .int .u16 0, .string ⟨#[]⟩, .string ⟨#[]⟩, .slice none 0 0], .int .i64 k]) ∧ Below u.heap.size u w')
    (hR : ∀ u : World, Calls Try.prog 39 #[.string s] u fun ee w' => ee = .returned (.tuple #[.agg #[.int .u16 0, .int .u16 0, .string ⟨#[]⟩, .string ⟨#[]⟩, .slice none 0 0], .int .i64 k]) ∧ Below u.heap.size u w') :
    Calls Try.prog 13 #[.string s] w fun ee w' => ee = .returned (.bool true) ∧ Below w.heap.size w w' := by
  have HO := hide hO
  have HR := hide hR
  clear hO hR
  have hgt : ¬ (16384 : Int) < (s.size : Int) := by omega
  have HSD := hide (fun (u : World) => sameT_any 0 0 ⟨#[]⟩ ⟨#[]⟩ none none 0 0 [] u (fun i hi => by simp at hi) (fun i hi => by simp at hi) (by simp))
  simp only [List.length_nil] at HSD
  go_enter Try.func13, Try.ntmps13
  go_wp2_with fail
  refine (unhide HO _).mono ?_
  rintro ee w1 ⟨rfl, hb1⟩
  have HB1 := hide hb1
  have hz1 := hb1.size
  clear hb1 HO
  go_wp2_with fail
  refine (unhide HR _).mono ?_
  rintro ee w2 ⟨rfl, hb2⟩
  have hc := Arp.below_cells hb2
  have HB2 := hide hb2
  have hz : w1.heap.size < w2.heap.size := by have := hb2.size; simp at this; omega
  clear hb2 HR
  go_wp2_with fail
  refine (unhide HSD _).mono ?_
  rintro ee w3 ⟨rfl, hb3⟩
  have HB3 := hide hb3
  clear hb3 HSD
  go_wp2
  go_ret
  refine ⟨by simp, ?_⟩
  exact ((((unhide HB1).alloc hz1 _).trans ((unhide HB2).mono (by simp; omega))).alloc (by omega) _).trans ((unhide HB3).mono (by simp; omega))
end Go.Proofs.Ytadkcdcdgphhpaa.Tf
