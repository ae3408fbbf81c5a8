import Derived.Test.YtoifihhmneldeaaGreatDoorMgTd
import Derived.Test.YtoifihhmneldeaaGreatDoorMgR
import Derived.Test.YtoifihhmneldeaaGreatDoorMgTb
namespace Go.Proofs.YtoifihhmneldeaaGreatDoor.Rn
open Go.ChangeShapes Go.WideShapes Go.ChangeAt Go.RowKit Bs Rd
open Tf (Msg Flds wrK wrB rdR plainM toldM bytesM AtF cellsF heavyF nameB goodF toldB apartB lowL flds8)
set_option linter.unusedVariables false
set_option linter.unusedSimpArgs false

/-- digits of a number -/
def digL (n : Nat) : List UInt8 := if n < 10 then [UInt8.ofNat (48 + n)] else digL (n / 10) ++ [UInt8.ofNat (48 + n % 10)]
termination_by n
decreasing_by omega
theorem digL_low (n : Nat) (h : n < 10) : digL n = [UInt8.ofNat (48 + n)] := by rw [digL, if_pos h]
theorem digL_high (n : Nat) (h : ¬ n < 10) : digL n = digL (n / 10) ++ [UInt8.ofNat (48 + n % 10)] := by rw [digL, if_neg h]
theorem digL_all (n : Nat) : (digL n).all Tf.okC = true ∧ digL n ≠ [] := by
  have dig : ∀ k, k < 10 → Tf.okC (UInt8.ofNat (48 + k)) = true := fun k hk => by
    unfold Tf.okC
    rw [UInt8.toNat_ofNat_of_lt' (by show 48 + k < 256; omega)]
    simp; omega
  by_cases h : n < 10
  · rw [digL_low n h]
    refine ⟨?_, by simp⟩
    rw [List.all_cons, dig n h]; rfl
  · have ih := digL_all (n / 10)
    rw [digL_high n h]
    refine ⟨?_, by simp⟩
    rw [List.all_append, ih.1, List.all_cons, dig (n % 10) (by omega)]; rfl
termination_by n
decreasing_by omega
theorem digL_name (n : Nat) : nameB (digL n) = true := by
  obtain ⟨h1, h2⟩ := digL_all n
  unfold nameB
  rw [h1, Bool.and_true]
  cases h : digL n with
  | nil => exact absurd h h2
  | cons a r => rfl
theorem digL_len (k n : Nat) (h : n < 10 ^ (k + 1)) : (digL n).length ≤ k + 1 := by
  induction k generalizing n with
  | zero => rw [digL_low n (by simpa using h)]; simp
  | succ k ih =>
    by_cases h10 : n < 10
    · rw [digL_low n h10]; simp
    · have q := ih (n / 10) (by rw [Nat.pow_succ] at h; omega)
      rw [digL_high n h10, List.length_append]
      simp only [List.length_cons, List.length_nil]; omega
/-- what a message is written as, and read back -/
theorem tf_write (o bl : Int) (ts ds s : ByteArray) (fa : Option Addr) (fc n : Nat) (m : Msg) (hn : n = m.fs.length) (hop : (m.op : Int) = o) (hbl : (m.block : Int) = bl) (hb0 : 0 ≤ bl) (hb1 : bl ≤ 65535) (hts : ts.data.toList = m.text) (hds : ds.data.toList = m.data) (hl : heavyF m.fs ≤ 1048576) (ht : m.text.length ≤ 1048576) (hd : m.data.length ≤ 1048576) (hk : wrK m = 0) (hs : s = ⟨(wrB m).toArray⟩) (u : World) (hA : AtF u fa m.fs) :
    Calls Tryz.prog 25 #[.agg #[.int .u16 o, .int .u16 bl, .string ts, .string ds, .slice fa n fc]] u fun e w' => e = .returned (.tuple #[.string s, .int .i64 0]) ∧ Below u.heap.size u w' := by
  have q := Tf.boot_any o bl ts ds fa fc m u hop hbl hb0 hb1 hts hds hA hl ht hd
  rw [hk] at q
  rw [hs, hn]; exact q
theorem tf_read (o bl : Int) (ts ds s : ByteArray) (n : Nat) (m : Msg) (hn : n = m.fs.length) (hop : (m.op : Int) = o) (hbl : (m.block : Int) = bl) (hb1 : m.block < 65536) (hts : ts.data.toList = m.text) (hds : ds.data.toList = m.data) (hk : wrK m = 0) (hp : plainM m) (hs : s = ⟨(wrB m).toArray⟩) (hlen : (wrB m).length ≤ 1048576) (u : World) :
    Calls Tryz.prog 26 #[.string s] u fun ee w' => TfR.OutP n (cellsF m.fs) u (fun sa sc => .tuple #[.agg #[.int .u16 o, .int .u16 bl, .string ts, .string ds, .slice sa n sc], .int .i64 0]) ee w' := by
  have q := TfR.boot_any s (wrB m) u (by rw [hs]) hlen
  rw [Tf.rd_wr m hk hp hb1] at q
  refine q.mono ?_
  rintro ee w' (⟨h, _⟩ | ⟨_, h⟩)
  · exact absurd rfl h
  · have e1 : ts = ⟨m.text.toArray⟩ := by rw [← hts]
    have e2 : ds = ⟨m.data.toArray⟩ := by rw [← hds]
    rw [hn, ← hop, ← hbl, e1, e2]
    exact h
/-- the four messages of the statement -/
def tx1 : List UInt8 := [110, 111, 32, 115, 117, 99, 104, 32, 116, 104, 105, 110, 103]
def kern : List UInt8 := [107, 101, 114, 110, 101, 108]
def fsM (n : Nat) : Flds := [([97], [49]), ([116, 115, 105, 122, 101], digL n)]
theorem fsM_told (n : Nat) : toldB (fsM n) = true := by
  have h := digL_name n
  simp only [toldB, fsM, List.all_cons, List.all_nil, goodF, h, Bool.and_true, Tf.namesF, List.map_cons, List.map_nil]
  decide
theorem fsM_len (n : Nat) (h : n < 100000) : (flds8 (fsM n)).length ≤ 20 ∧ heavyF (fsM n) ≤ 100 := by
  have q := digL_len 4 n h
  constructor
  · simp only [flds8, fsM, List.flatMap_cons, List.flatMap_nil, Tf.fd8, List.length_append, List.length_cons, List.length_nil]; omega
  · simp only [heavyF, fsM, List.map_cons, List.map_nil, List.sum_cons, List.sum_nil, List.length_cons, List.length_nil]; omega
def m3 (bl : Nat) (l : List UInt8) : Msg := ⟨3, bl, [], l, []⟩
def m4 (bl : Nat) : Msg := ⟨4, bl, [], [], []⟩
def m5 (bl : Nat) : Msg := ⟨5, bl, tx1, [], []⟩
def m1 (n : Nat) : Msg := ⟨1, 0, kern, [], fsM n⟩
def m6 (n : Nat) : Msg := ⟨6, 0, [], [], fsM n⟩
/-- what the end of the statement's walk wants of a message -/
structure OkM (m : Msg) : Prop where
  k : wrK m = 0
  p : plainM m
  b : m.block < 65536
  h : heavyF m.fs ≤ 1048576
  t : m.text.length ≤ 1048576
  d : m.data.length ≤ 1048576
  l : (wrB m).length ≤ 1048576
  n : m.fs.length ≤ 2
theorem be2_len (n : Nat) : (Tf.be2 n).length = 2 := rfl
theorem ok3 (bl : Nat) (l : List UInt8) (hb : bl < 65536) (hl : l.length ≤ 1000) : OkM (m3 bl l) := by
  have e : bytesM (m3 bl l) = Tf.be2 3 ++ (Tf.be2 bl ++ l) := by simp [bytesM, m3]
  have hlen : (bytesM (m3 bl l)).length = 4 + l.length := by rw [e, List.length_append, List.length_append, be2_len, be2_len]; omega
  have hk : wrK (m3 bl l) = 0 := by
    unfold wrK
    rw [if_neg (by simp [toldM, m3]), if_neg (by simp only [m3]; omega), if_neg (by omega)]
  refine ⟨hk, ?_, hb, by simp [m3, heavyF], by simp [m3], by simp only [m3]; omega, ?_, by simp [m3]⟩
  · simp [plainM, m3]
  · unfold wrB; rw [if_pos hk, hlen]; omega
theorem ok4 (bl : Nat) (hb : bl < 65536) : OkM (m4 bl) := by
  have e : bytesM (m4 bl) = Tf.be2 4 ++ Tf.be2 bl := by simp [bytesM, m4]
  have hlen : (bytesM (m4 bl)).length = 4 := by rw [e, List.length_append, be2_len, be2_len]
  have hk : wrK (m4 bl) = 0 := by
    unfold wrK
    rw [if_neg (by simp [toldM, m4]), if_neg (by simp [m4]), if_neg (by omega)]
  refine ⟨hk, ?_, hb, by simp [m4, heavyF], by simp [m4], by simp [m4], ?_, by simp [m4]⟩
  · simp [plainM, m4]
  · unfold wrB; rw [if_pos hk, hlen]; omega
theorem ok5 (bl : Nat) (hb : bl < 65536) : OkM (m5 bl) := by
  have e : bytesM (m5 bl) = Tf.be2 5 ++ (Tf.be2 bl ++ (tx1 ++ [0])) := by simp [bytesM, m5]
  have hlen : (bytesM (m5 bl)).length = 18 := by rw [e, List.length_append, List.length_append, be2_len, be2_len]; rfl
  have hk : wrK (m5 bl) = 0 := by
    unfold wrK
    rw [if_neg (by simp [toldM, m5, tx1]), if_neg (by simp [m5]), if_neg (by omega)]
  refine ⟨hk, ?_, hb, by simp [m5, heavyF], by simp [m5, tx1], by simp [m5], ?_, by simp [m5]⟩
  · simp [plainM, m5]
  · unfold wrB; rw [if_pos hk, hlen]; omega
theorem ok1 (n : Nat) (h : n < 100000) : OkM (m1 n) := by
  obtain ⟨q1, q2⟩ := fsM_len n h
  have e : bytesM (m1 n) = Tf.be2 1 ++ (kern ++ [0] ++ (Tf.octet ++ [0]) ++ flds8 (fsM n)) := by simp [bytesM, m1]
  have hlen : (bytesM (m1 n)).length ≤ 100 := by
    rw [e]
    simp only [List.length_append, be2_len, kern, Tf.octet, List.length_cons, List.length_nil]; omega
  have hk : wrK (m1 n) = 0 := by
    unfold wrK
    rw [if_neg (by simp only [toldM, m1, if_true, fsM_told n, Bool.and_true]; decide), if_neg (by simp [m1]), if_neg (by omega)]
  refine ⟨hk, ?_, by simp [m1], by simp only [m1]; omega, by simp [m1, kern], by simp [m1], ?_, by simp [m1, fsM]⟩
  · simp [plainM, m1]
  · unfold wrB; rw [if_pos hk]; omega
theorem ok6 (n : Nat) (h : n < 100000) : OkM (m6 n) := by
  obtain ⟨q1, q2⟩ := fsM_len n h
  have e : bytesM (m6 n) = Tf.be2 6 ++ flds8 (fsM n) := by simp [bytesM, m6]
  have hlen : (bytesM (m6 n)).length ≤ 100 := by
    rw [e, List.length_append, be2_len]; omega
  have hk : wrK (m6 n) = 0 := by
    unfold wrK
    rw [if_neg (by simp [toldM, m6, fsM_told n]), if_neg (by simp [m6]), if_neg (by omega)]
  refine ⟨hk, ?_, by simp [m6], by simp only [m6]; omega, by simp [m6], by simp [m6], ?_, by simp [m6, fsM]⟩
  · simp [plainM, m6]
  · unfold wrB; rw [if_pos hk]; omega
end Go.Proofs.YtoifihhmneldeaaGreatDoor.Rn

namespace Go.Proofs.YtoifihhmneldeaaGreatDoor.Rn
open Go.ChangeShapes Go.WideShapes Go.ChangeAt Go.RowKit Bs
set_option linter.unusedVariables false
set_option linter.unusedSimpArgs false

theorem byte_later (u v : World) (x : UInt8) (y : Int) (h : ((x.toNat : Nat) : Int) = y) (hb : Below (u.alloc (.cells #[.int .u8 y] 5)).heap.size (u.alloc (.cells #[.int .u8 y] 5)) v) : (convert 71 9 (.slice (some ⟨u.heap.size, 0, none⟩) 1 1)).run Tryz.prog v = .ok (.string ⟨#[x]⟩) v := by
  subst h
  exact run_convert_bytes_back (P := Tryz.prog) v 71 9 5 ⟨u.heap.size, 0, none⟩ 1 [x] Tryz.underlying71 Tryz.underlying5 Tryz.underlying9 (fun j hj => by
    rw [add_lit', hb.cell (p := ⟨u.heap.size, j, none⟩) (by simp)]
    have q := Bs.cell_new u [.int .u8 x.toNat] 5 j
    rw [add_lit'] at q
    match j, hj with
    | 0, _ => exact q _ rfl)
theorem w64s (n : Int) (h0 : -9223372036854775808 ≤ n) (h1 : n ≤ 9223372036854775807) : IntKind.i64.wrap n = n := by
  simp [IntKind.wrap, IntKind.bits, IntKind.signed]; omega
theorem dig_num (k : Nat) (h : k < 10) : (((UInt8.ofNat (48 + k)).toNat : Nat) : Int) = 48 + (k : Int) := by
  rw [UInt8.toNat_ofNat_of_lt' (by show 48 + k < 256; omega)]; omega
set_option maxHeartbeats 2000000 in
set_option maxRecDepth 10000 in
theorem digits_any (n : Nat) : ∀ (w : World) (hn : n ≤ 1000000),
    Calls Tryz.prog 24 #[.int .i64 n] w fun e w' => e = .returned (.string ⟨(digL n).toArray⟩) ∧ Below w.heap.size w w' := by
  refine Nat.strongRecOn n ?_
  clear n
  intro n ih w hn
  by_cases h10 : n < 10
  · obtain ⟨x, hx⟩ : ∃ x : UInt8, x = UInt8.ofNat (48 + n) := ⟨_, rfl⟩
    have hxv : ((x.toNat : Nat) : Int) = 48 + (n : Int) := by rw [hx]; exact dig_num n h10
    have hlt : (n : Int) < 10 := by omega
    have v1 : IntKind.i64.wrap (48 + (n : Int)) = 48 + (n : Int) := w64s _ (by omega) (by omega)
    have v2 : IntKind.u8.wrap (48 + (n : Int)) = 48 + (n : Int) := by simp [IntKind.wrap, IntKind.bits, IntKind.signed]; omega
    have hcv := byte_later w _ x _ hxv (Below.refl _ _)
    have HD : Hid ((⟨#[x]⟩ : ByteArray) = ⟨(digL n).toArray⟩) := hide (by rw [digL_low n h10, hx])
    clear hx hxv ih
    go_enter Tryz.func24, Tryz.ntmps24
    go_wp2
    go_ret
    exact ⟨by rw [unhide HD]; rfl, (Below.refl _ _).alloc (Nat.le_refl _) _⟩
  · obtain ⟨x, hx⟩ : ∃ x : UInt8, x = UInt8.ofNat (48 + n % 10) := ⟨_, rfl⟩
    obtain ⟨r, hr⟩ : ∃ r, r = n % 10 := ⟨_, rfl⟩
    obtain ⟨t, ht⟩ : ∃ t, t = n / 10 := ⟨_, rfl⟩
    have hlt : ¬ (n : Int) < 10 := by omega
    have hxv : ((x.toNat : Nat) : Int) = 48 + (r : Int) := by rw [hx, hr]; exact dig_num _ (by omega)
    have IH := hide (fun u => ih t (by omega) u (by omega))
    have d1 : (n : Int).tdiv 10 = (t : Int) := by rw [Int.tdiv_eq_ediv_of_nonneg (by omega)]; omega
    have d2 : (n : Int).tmod 10 = (r : Int) := by rw [Int.tmod_eq_emod_of_nonneg (by omega)]; omega
    have d3 : (n : Int) / 10 = (t : Int) := by omega
    have d4 : (n : Int) % 10 = (r : Int) := by omega
    have v0 : IntKind.i64.wrap (t : Int) = (t : Int) := w64s _ (by omega) (by omega)
    have v1 : IntKind.i64.wrap (48 + (r : Int)) = 48 + (r : Int) := w64s _ (by omega) (by omega)
    have v2 : IntKind.u8.wrap (48 + (r : Int)) = 48 + (r : Int) := by simp [IntKind.wrap, IntKind.bits, IntKind.signed]; omega
    obtain ⟨D, hD⟩ : ∃ D : ByteArray, D = ⟨(digL t).toArray⟩ := ⟨_, rfl⟩
    have hlim : ¬ 9223372036854775807 < D.size + 1 := by
      have q := digL_len 6 t (by omega)
      rw [hD, str_size]; omega
    rw [← hD] at IH
    have HD : Hid (D ++ (⟨#[x]⟩ : ByteArray) = ⟨(digL n).toArray⟩) := hide (by rw [digL_high n h10, hD, show (⟨#[x]⟩ : ByteArray) = ⟨[x].toArray⟩ from rfl, add_str, hx, ht])
    have HCL := hide (fun (u v : World) hb => byte_later u v x _ hxv hb)
    have hcv : ∀ u : World, (convert 71 9 (.slice (some ⟨u.heap.size, 0, none⟩) 1 1)).run Tryz.prog (u.alloc (.cells #[.int .u8 (48 + (r : Int))] 5)) = .ok (.string ⟨#[x]⟩) (u.alloc (.cells #[.int .u8 (48 + (r : Int))] 5)) := fun u => unhide HCL u _ (Below.refl _ _)
    have hcd : ∀ u : World, (convert 71 9 (.slice (some ⟨u.heap.size, 0, none⟩) 1 1)).run Tryz.prog (u.alloc (.cells #[.int .u8 (48 + (r : Int))] 5)).drew = .ok (.string ⟨#[x]⟩) (u.alloc (.cells #[.int .u8 (48 + (r : Int))] 5)).drew := fun u => unhide HCL u _ (Below.refl _ _).drew
    clear hx hr ht hxv hD ih
    go_enter Tryz.func24, Tryz.ntmps24
    go_wp2_with fail
    refine wp_region_any (by kernel_rfl) ?_
    change wpAny _ _ _ _ _ _ _ (World.drew _)
    refine wpAny_take (i := 0) (v := .int .i64 (n : Int)) rfl (by kernel_rfl) (by kernel_rfl) (by kernel_rfl) (fun _ _ _ h => h) (Or.inl ⟨by kernel_rfl, ?_⟩) ?_
    · intro u; go_simp
    try simp only [Act.put, List.setIfInBounds_toArray, List.set_cons_zero, List.set_cons_succ]
    refine wpAny_take (i := 1) (v := .int .i64 (t : Int)) rfl (by kernel_rfl) (by kernel_rfl) (by kernel_rfl) (fun _ _ _ h => h) (Or.inl ⟨by kernel_rfl, ?_⟩) ?_
    · intro u; go_simp
    try simp only [Act.put, List.setIfInBounds_toArray, List.set_cons_zero, List.set_cons_succ]
    refine wpAny_take (i := 3) (v := .int .i64 (n : Int)) rfl (by kernel_rfl) (by kernel_rfl) (by kernel_rfl) (fun _ _ _ h => h) (Or.inl ⟨by kernel_rfl, ?_⟩) ?_
    · intro u; go_simp
    try simp only [Act.put, List.setIfInBounds_toArray, List.set_cons_zero, List.set_cons_succ]
    refine wpAny_take (i := 4) (v := .int .i64 (r : Int)) rfl (by kernel_rfl) (by kernel_rfl) (by kernel_rfl) (fun _ _ _ h => h) (Or.inl ⟨by kernel_rfl, ?_⟩) ?_
    · intro u; go_simp
    try simp only [Act.put, List.setIfInBounds_toArray, List.set_cons_zero, List.set_cons_succ]
    refine wpAny_take (i := 5) (v := .int .i64 (48 + (r : Int))) rfl (by kernel_rfl) (by kernel_rfl) (by kernel_rfl) (fun _ _ _ h => h) (Or.inl ⟨by kernel_rfl, ?_⟩) ?_
    · intro u; go_simp
    try simp only [Act.put, List.setIfInBounds_toArray, List.set_cons_zero, List.set_cons_succ]
    refine wpAny_take (i := 6) (v := .int .u8 (48 + (r : Int))) rfl (by kernel_rfl) (by kernel_rfl) (by kernel_rfl) (fun _ _ _ h => h) (Or.inl ⟨by kernel_rfl, ?_⟩) ?_
    · intro u; go_simp
    try simp only [Act.put, List.setIfInBounds_toArray, List.set_cons_zero, List.set_cons_succ]
    refine wpAny_ready (rs := [2, 7]) (by kernel_rfl) (by simp) ?_
    refine AllReady.cons rfl (fun K hK => ?_) (AllReady.cons rfl (fun K hK => ?_) AllReady.nil)
    · skip
      go_simp
      refine (unhide IH _).mono ?_
      rintro ee v ⟨rfl, hb⟩
      have HBV := hide hb
      clear hb
      refine hK _ _ ?_
      clear hK K
      try simp only [Act.put, List.setIfInBounds_toArray, List.set_cons_zero, List.set_cons_succ]
      refine wpAny_ready (rs := [7]) (by kernel_rfl) (by simp) ?_
      refine AllReady.cons rfl (fun K hK => ?_) AllReady.nil
      go_simp
      refine hK _ _ ?_
      clear hK K
      try simp only [Act.put, List.setIfInBounds_toArray, List.set_cons_zero, List.set_cons_succ]
      refine wpAny_ready (rs := [8]) (by kernel_rfl) (by simp) ?_
      refine AllReady.cons rfl (fun K hK => ?_) AllReady.nil
      go_simp
      refine hK _ _ ?_
      clear hK K
      try simp only [Act.put, List.setIfInBounds_toArray, List.set_cons_zero, List.set_cons_succ]
      refine wpAny_take (i := 9) (v := .string (D ++ ⟨#[x]⟩)) rfl (by kernel_rfl) (by kernel_rfl) (by kernel_rfl) (fun _ _ _ h => h) (Or.inl ⟨by kernel_rfl, ?_⟩) ?_
      · intro u; go_simp
      try simp only [Act.put, List.setIfInBounds_toArray, List.set_cons_zero, List.set_cons_succ]
      refine wpAny_ready (rs := [10]) (by kernel_rfl) (by simp) ?_
      refine AllReady.cons rfl (fun K hK => ?_) AllReady.nil
      go_simp
      refine hK _ _ ?_
      clear hK K
      try simp only [Act.put, List.setIfInBounds_toArray, List.set_cons_zero, List.set_cons_succ]
      refine wpAny_done (by kernel_rfl) ?_ _
      go_wp2
      go_ret
      exact ⟨by rw [unhide HD]; rfl, ((Below.refl w.heap.size w).drew.trans (unhide HBV)).alloc (unhide HBV).size _⟩
    · skip
      go_simp
      refine hK _ _ ?_
      clear hK K
      try simp only [Act.put, List.setIfInBounds_toArray, List.set_cons_zero, List.set_cons_succ]
      refine wpAny_ready (rs := [2, 8]) (by kernel_rfl) (by simp) ?_
      refine AllReady.cons rfl (fun K hK => ?_) (AllReady.cons rfl (fun K hK => ?_) AllReady.nil)
      · skip
        go_simp
        refine (unhide IH _).mono ?_
        rintro ee v ⟨rfl, hb⟩
        have hc2 := unhide HCL w v ((Below.refl _ _).drew.trans hb)
        have HBV := hide hb
        clear hb
        refine hK _ _ ?_
        clear hK K
        try simp only [Act.put, List.setIfInBounds_toArray, List.set_cons_zero, List.set_cons_succ]
        refine wpAny_ready (rs := [8]) (by kernel_rfl) (by simp) ?_
        refine AllReady.cons rfl (fun K hK => ?_) AllReady.nil
        go_simp
        refine hK _ _ ?_
        clear hK K
        try simp only [Act.put, List.setIfInBounds_toArray, List.set_cons_zero, List.set_cons_succ]
        refine wpAny_take (i := 9) (v := .string (D ++ ⟨#[x]⟩)) rfl (by kernel_rfl) (by kernel_rfl) (by kernel_rfl) (fun _ _ _ h => h) (Or.inl ⟨by kernel_rfl, ?_⟩) ?_
        · intro u; go_simp
        try simp only [Act.put, List.setIfInBounds_toArray, List.set_cons_zero, List.set_cons_succ]
        refine wpAny_ready (rs := [10]) (by kernel_rfl) (by simp) ?_
        refine AllReady.cons rfl (fun K hK => ?_) AllReady.nil
        go_simp
        refine hK _ _ ?_
        clear hK K
        try simp only [Act.put, List.setIfInBounds_toArray, List.set_cons_zero, List.set_cons_succ]
        refine wpAny_done (by kernel_rfl) ?_ _
        go_wp2
        go_ret
        exact ⟨by rw [unhide HD]; rfl, ((Below.refl w.heap.size w).alloc (Nat.le_refl _) _).drew.trans ((unhide HBV).mono ((Below.refl w.heap.size w).alloc (Nat.le_refl _) _).drew.size)⟩
      · skip
        go_simp
        refine hK _ _ ?_
        clear hK K
        try simp only [Act.put, List.setIfInBounds_toArray, List.set_cons_zero, List.set_cons_succ]
        refine wpAny_ready (rs := [2]) (by kernel_rfl) (by simp) ?_
        refine AllReady.cons rfl (fun K hK => ?_) AllReady.nil
        go_simp
        refine (unhide IH _).mono ?_
        rintro ee v ⟨rfl, hb⟩
        have HBV := hide hb
        clear hb
        refine hK _ _ ?_
        clear hK K
        try simp only [Act.put, List.setIfInBounds_toArray, List.set_cons_zero, List.set_cons_succ]
        refine wpAny_take (i := 9) (v := .string (D ++ ⟨#[x]⟩)) rfl (by kernel_rfl) (by kernel_rfl) (by kernel_rfl) (fun _ _ _ h => h) (Or.inl ⟨by kernel_rfl, ?_⟩) ?_
        · intro u; go_simp
        try simp only [Act.put, List.setIfInBounds_toArray, List.set_cons_zero, List.set_cons_succ]
        refine wpAny_ready (rs := [10]) (by kernel_rfl) (by simp) ?_
        refine AllReady.cons rfl (fun K hK => ?_) AllReady.nil
        go_simp
        refine hK _ _ ?_
        clear hK K
        try simp only [Act.put, List.setIfInBounds_toArray, List.set_cons_zero, List.set_cons_succ]
        refine wpAny_done (by kernel_rfl) ?_ _
        go_wp2
        go_ret
        exact ⟨by rw [unhide HD]; rfl, ((Below.refl w.heap.size w).alloc (Nat.le_refl _) _).drew.trans ((unhide HBV).mono ((Below.refl w.heap.size w).alloc (Nat.le_refl _) _).drew.size)⟩
end Go.Proofs.YtoifihhmneldeaaGreatDoor.Rn
