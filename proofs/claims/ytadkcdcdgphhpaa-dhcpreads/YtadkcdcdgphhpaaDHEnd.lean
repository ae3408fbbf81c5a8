import Derived.Test.YtadkcdcdgphhpaaDHSame
import Derived.Test.YtadkcdcdgphhpaaDHRh
import Derived.Test.YtadkcdcdgphhpaaDHRefR
import Derived.Test.YtadkcdcdgphhpaaStructSame
namespace Go.Proofs.Ytadkcdcdgphhpaa.Dh
open Go.ChangeShapes Go.WideShapes Go.ChangeAt Go.RowKit Bs
set_option linter.unusedVariables false
set_option linter.unusedSimpArgs false

theorem eql_card (c0 c1 c2 c3 c4 c5 : Int) (w : World) : (binOp .eql 23 (.agg #[.int .u8 c0, .int .u8 c1, .int .u8 c2, .int .u8 c3, .int .u8 c4, .int .u8 c5]) (.agg #[.int .u8 c0, .int .u8 c1, .int .u8 c2, .int .u8 c3, .int .u8 c4, .int .u8 c5])).run Try.prog w = .ok (.bool true) w := by
  rw [run_eql_struct, Sq.eql_mac 9998 c0 c1 c2 c3 c4 c5 w]; rfl

set_option maxHeartbeats 2000000 in
set_option maxRecDepth 10000 in
theorem same_dhcp (rp : Bool) (x0 x1 x2 x3 c0 c1 c2 c3 c4 c5 : Int) (a b : Option Addr) (ca cb : Nat) (os : Opts) (w : World) (hA : At w a os) (hB : At w b os) (hl : os.length ≤ 268435456) :
    Calls Try.prog 33 #[.agg #[.bool rp, .int .u32 x0, .int .u32 x1, .int .u32 x2, .int .u32 x3, .int .u8 c0, .int .u8 c1, .int .u8 c2, .int .u8 c3, .int .u8 c4, .int .u8 c5, .slice a os.length ca], .agg #[.bool rp, .int .u32 x0, .int .u32 x1, .int .u32 x2, .int .u32 x3, .int .u8 c0, .int .u8 c1, .int .u8 c2, .int .u8 c3, .int .u8 c4, .int .u8 c5, .slice b os.length cb]] w fun e w' => e = .returned (.bool true) ∧ Below w.heap.size w w' := by
  have HS := hide (fun (u : World) (hb : Below w.heap.size w u) => same_any a b ca cb os u (hA.below hb (Nat.le_refl _)) (hB.below hb (Nat.le_refl _)) (by omega))
  have heq := fun u => eql_card c0 c1 c2 c3 c4 c5 u
  clear hA hB
  go_enter Try.func33, Try.ntmps33
  go_wp2_with fail
  refine (unhide HS _ (((Below.refl _ w).alloc (Nat.le_refl _) _).alloc (by simp) _)).mono ?_
  rintro ee w1 ⟨rfl, hb1⟩
  have HB1 := hide hb1
  clear hb1
  go_wp2
  go_ret
  refine ⟨by simp, ?_⟩
  exact (((Below.refl _ w).alloc (Nat.le_refl _) _).alloc (by simp) _).trans ((unhide HB1).mono (by simp; omega))

set_option maxHeartbeats 2000000 in
set_option maxRecDepth 10000 in
/-- both sides answer the same, with a list of options each -/
theorem law_ok (s : ByteArray) (rp : Bool) (x0 x1 x2 x3 c0 c1 c2 c3 c4 c5 : Int) (os : Opts) (w : World) (hm : s.size ≤ 262144) (hl : os.length ≤ 268435456)
    (hO : ∀ u : World, Calls Try.prog 31 #[.string s] u fun ee w' => DhR.OutP os.length (cellsO os) u (fun sa sc => .tuple #[.agg #[.bool rp, .int .u32 x0, .int .u32 x1, .int .u32 x2, .int .u32 x3, .int .u8 c0, .int .u8 c1, .int .u8 c2, .int .u8 c3, .int .u8 c4, .int .u8 c5, .slice sa os.length sc], .int .i64 0]) ee w')
    (hR : ∀ u : World, Calls Try.prog 32 #[.string s] u fun ee w' => Below u.heap.size u w' ∧ ∃ v, ee = .returned (.tuple #[.agg #[.bool rp, .int .u32 x0, .int .u32 x1, .int .u32 x2, .int .u32 x3, .int .u8 c0, .int .u8 c1, .int .u8 c2, .int .u8 c3, .int .u8 c4, .int .u8 c5, v], .int .i64 0]) ∧ Has (u.heap.size + 2) w' v os) :
    Calls Try.prog 11 #[.string s] w fun ee w' => ee = .returned (.bool true) ∧ Below w.heap.size w w' := by
  have HO := hide hO
  have HR := hide hR
  clear hO hR
  have hgt : ¬ (262144 : Int) < (s.size : Int) := by omega
  go_enter Try.func11, Try.ntmps11
  go_wp2_with fail
  refine (unhide HO _).mono ?_
  rintro ee w1 ⟨sa, sc, rfl, hown, hb1⟩
  have HA1 := hide (At.own hown)
  have HB1 := hide hb1
  have hz1 := hb1.size
  clear hown hb1 HO
  go_wp2_with fail
  refine (unhide HR _).mono ?_
  rintro ee w2 ⟨hb2, v, rfl, hhas⟩
  obtain ⟨ga, gc, rfl, hA2⟩ := hhas.slice
  have hc := Arp.below_cells hb2
  have HB2 := hide hb2
  have hz : w1.heap.size < w2.heap.size := by have := hb2.size; simp at this; omega
  have hAt1 : At w2 sa os := ((unhide HA1).below ((Below.refl w1.heap.size w1).alloc (Nat.le_refl _) _) (Nat.le_refl _)).below hb2 (by simp)
  have HSD := hide (fun (u : World) (hb : Below w2.heap.size w2 u) => same_dhcp rp x0 x1 x2 x3 c0 c1 c2 c3 c4 c5 sa ga sc gc os u (hAt1.below hb (Nat.le_refl _)) (hA2.below hb (Nat.le_refl _)) hl)
  clear hb2 HR hhas hA2 hAt1 HA1
  go_wp2_with fail
  refine (unhide HSD _ ((Below.refl _ w2).alloc (Nat.le_refl _) _)).mono ?_
  rintro ee w3 ⟨rfl, hb3⟩
  have HB3 := hide hb3
  clear hb3 HSD
  go_wp2
  go_ret
  refine ⟨by simp, ?_⟩
  exact ((((unhide HB1).alloc hz1 _).trans ((unhide HB2).mono (by simp; omega))).alloc (by omega) _).trans ((unhide HB3).mono (by simp; omega))

set_option maxHeartbeats 2000000 in
set_option maxRecDepth 10000 in
theorem law_no (s : ByteArray) (k : Int) (w : World) (hm : s.size ≤ 262144)
    (hO : ∀ u : World, Calls Try.prog 31 #[.string s] u fun ee w' => ee = .returned (.tuple #[.agg #[.bool false, .int .u32 0, .int .u32 0, .int .u32 0, .int .u32 0, .int .u8 0, .int .u8 0, .int .u8 0, .int .u8 0, .int .u8 0, .int .u8 0, .slice none 0 0], .int .i64 k]) ∧ Below u.heap.size u w')
    (hR : ∀ u : World, Calls Try.prog 32 #[.string s] u fun ee w' => ee = .returned (.tuple #[.agg #[.bool false, .int .u32 0, .int .u32 0, .int .u32 0, .int .u32 0, .int .u8 0, .int .u8 0, .int .u8 0, .int .u8 0, .int .u8 0, .int .u8 0, .slice none 0 0], .int .i64 k]) ∧ Below u.heap.size u w') :
    Calls Try.prog 11 #[.string s] w fun ee w' => ee = .returned (.bool true) ∧ Below w.heap.size w w' := by
  have HO := hide hO
  have HR := hide hR
  clear hO hR
  have hgt : ¬ (262144 : Int) < (s.size : Int) := by omega
  have HSD := hide (fun (u : World) => same_dhcp false 0 0 0 0 0 0 0 0 0 0 none none 0 0 [] u (fun i hi => by simp at hi) (fun i hi => by simp at hi) (by simp))
  simp only [List.length_nil] at HSD
  go_enter Try.func11, Try.ntmps11
  go_wp2_with fail
  refine (unhide HO _).mono ?_
  rintro ee w1 ⟨rfl, hb1⟩
  have HB1 := hide hb1
  have hz1 := hb1.size
  clear hb1 HO
  go_wp2_with fail
  refine (unhide HR _).mono ?_
  rintro ee w2 ⟨rfl, hb2⟩
  have hc := Arp.below_cells hb2
  have HB2 := hide hb2
  have hz : w1.heap.size < w2.heap.size := by have := hb2.size; simp at this; omega
  clear hb2 HR
  go_wp2_with fail
  refine (unhide HSD _).mono ?_
  rintro ee w3 ⟨rfl, hb3⟩
  have HB3 := hide hb3
  clear hb3 HSD
  go_wp2
  go_ret
  refine ⟨by simp, ?_⟩
  exact ((((unhide HB1).alloc hz1 _).trans ((unhide HB2).mono (by simp; omega))).alloc (by omega) _).trans ((unhide HB3).mono (by simp; omega))
end Go.Proofs.Ytadkcdcdgphhpaa.Dh
