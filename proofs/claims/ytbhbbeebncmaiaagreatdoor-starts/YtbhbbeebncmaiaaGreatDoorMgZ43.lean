import Derived.Test.YtbhbbeebncmaiaaGreatDoorMgZ01
import Derived.OpenShut
import Derived.Test.YtbhbbeebncmaiaaGreatDoorMgZ36
import Derived.Deep.SlicePairs
import Derived.SizedLaws
import Derived.Test.YtbhbbeebncmaiaaGreatDoorMgZ37
import Derived.Test.YtbhbbeebncmaiaaGreatDoorMgZ48
import Derived.Test.YtbhbbeebncmaiaaGreatDoorMgZ29
import Derived.Test.YtbhbbeebncmaiaaGreatDoorMgZ26
namespace Go.Proofs.YtbhbbeebncmaiaaGreatDoor.Op
open Go.ChangeShapes Go.WideShapes Go.ChangeAt Go.RowKit Bs
set_option linter.unusedVariables false
theorem laid : laidOutB Tryz.prog = true := by kernel_rfl
theorem own : ownKnob Tryz.prog.godebug = none := by kernel_rfl
theorem cellsMAC : Tryz.prog.cellsOf 26 = 6 := by kernel_rfl
theorem cells8 : Tryz.prog.cellsOf 5 = 1 := by kernel_rfl
theorem cellsStr : Tryz.prog.cellsOf 9 = 1 := by kernel_rfl

theorem byte_of {n : Int} (h : (Lit.int .u8 n).wf = true) : ∃ a : UInt8, n = (a.toNat : Int) := by
  have hx : 0 ≤ n ∧ n ≤ 255 := by simpa [Lit.wf, IntKind.min, IntKind.max, IntKind.signed, IntKind.bits] using h
  exact ⟨UInt8.ofNat n.toNat, by simp only [UInt8.toNat_ofNat']; omega⟩
section
variable {H : Type} {enc : TypeId × Value → H} {w : World} {base : Nat} {spare : Nat → Bool} {held : Bool} {fuel : Nat}
theorem list6 (l : List Value) (h : l.length = 6) : ∃ a b c d e f, l = [a, b, c, d, e, f] := by
  match l, h with
  | [a, b, c, d, e, f], _ => exact ⟨a, b, c, d, e, f, rfl⟩
theorem mac_open {cs : List Value} {x : DataW H × List MemPlace} (h : DataW.trod enc Tryz.prog w base spare held fuel 26 cs = some x) :
    ∃ a b c d e f : UInt8, cs = [.int .u8 a.toNat, .int .u8 b.toNat, .int .u8 c.toNat, .int .u8 d.toNat, .int .u8 e.toNat, .int .u8 f.toNat] := by
  obtain ⟨xs, m, _, _, hl, hx, hi⟩ := DataW.trod_array Tryz.underlying26 h
  rw [cellsMAC] at hl
  have one : ∀ i (hi6 : i < 6), ∃ a : UInt8, cs[i]? = some (.int .u8 a.toNat) := by
    intro i hi6
    have h1 := hi i hi6
    rw [cells8, Nat.mul_one, List.getElem?_eq_getElem (by omega)] at h1
    obtain ⟨n, e1, _, wn⟩ := DataW.trod_int Tryz.underlying5 h1
    obtain ⟨a, rfl⟩ := byte_of wn
    refine ⟨a, ?_⟩
    have e2 := congrArg (fun l => l[0]?) e1
    simpa using e2
  obtain ⟨c0, c1, c2, c3, c4, c5, rfl⟩ := list6 cs hl
  obtain ⟨a, ha⟩ := one 0 (by omega)
  obtain ⟨b, hb⟩ := one 1 (by omega)
  obtain ⟨c, hc⟩ := one 2 (by omega)
  obtain ⟨d, hd⟩ := one 3 (by omega)
  obtain ⟨e, he⟩ := one 4 (by omega)
  obtain ⟨f, hf⟩ := one 5 (by omega)
  simp at ha hb hc hd he hf
  subst ha hb hc hd he hf
  exact ⟨a, b, c, d, e, f, rfl⟩
end
theorem close1 {H : Type} {enc : TypeId × Value → H} {fn : Func} {s : ChangeSpec} {W W' : World} {t : TypeId} {v0 : Value} {d0 : DataW H} {p0 : List MemPlace}
    (hW : DataW.Whole enc Tryz.prog fn.params.toList s.vars false W #[v0].toList [d0] [] p0) (hp : fn.params = #[t]) (hr : fn.resultTypes = #[4]) (hv : s.vars = [])
    (hs : (s.fn H [d0]).results = [.lit (.bool true)] ∧ (s.fn H [d0]).args = [d0] ∧ (s.fn H [d0]).vars = [])
    (hread : Tryz.prog.readableRec t = true) (hrow : t < Tryz.prog.types.size)
    (h0 : DataW.Trod enc Tryz.prog W 0 (fun _ => true) true t v0 d0 p0) (hb : Below W.heap.size W W') :
    s.post enc Tryz.prog fn false true false false W #[v0] (.bool true) W' := by
  have hlt : ∀ x ∈ p0, x.block < W.heap.size := fun x hx => by simpa using hW.lt x hx
  refine ⟨[d0], [], p0, [], p0 ++ [], [], hW, ?_, ?_, ?_, hb.frame _, fun h => by cases h⟩
  · rw [List.append_nil, hs.1, hr]
    exact trodAll_cons_mk (shut_bool Tryz.underlying4 _) trodAll_mk0
  · rw [List.append_nil, hs.2.1, hp]
    exact trodAll_cons_mk (Below.trod laid hread hrow h0 hb hlt) trodAll_mk0
  · rw [List.append_nil, hs.2.2, hv]
    rfl
end Go.Proofs.YtbhbbeebncmaiaaGreatDoor.Op
namespace Go.Proofs.YtbhbbeebncmaiaaGreatDoor.Law
open Go.ChangeShapes Go.WideShapes Go.ChangeAt Go.RowKit Bs Mac
set_option linter.unusedVariables false
set_option linter.unusedSimpArgs false
instance : Inhabited Opx := ⟨⟨0, 0, 0, ⟨0, 0, 0, 0, 0, 0, ⟨#[]⟩, 0, ⟨#[]⟩, 0, 0, 0, 0⟩, ⟨#[]⟩⟩⟩
theorem cellsOp : Tryz.prog.cellsOf 30 = 17 := by kernel_rfl
theorem cellsCfg : Tryz.prog.cellsOf 28 = 13 := by kernel_rfl
theorem cellsInt : Tryz.prog.cellsOf 3 = 1 := by kernel_rfl
theorem cellsStr : Tryz.prog.cellsOf 9 = 1 := by kernel_rfl
theorem cellsMac : Tryz.prog.cellsOf 26 = 6 := by kernel_rfl
theorem bytesOp : 1 ≤ Tryz.prog.bytesOf 30 := by
  have : Tryz.prog.bytesOf 30 = 120 := by kernel_rfl
  omega
theorem bdI {n : Int} (h : (Lit.int .i64 n).wf = true) : -9223372036854775808 ≤ n ∧ n ≤ 9223372036854775807 := by
  simpa [Lit.wf, IntKind.min, IntKind.max, IntKind.signed, IntKind.bits] using h
theorem list17 (l : List Value) (h : l.length = 17) : ∃ a0 a1 a2 a3 a4 a5 a6 a7 a8 a9 a10 a11 a12 a13 a14 a15 a16, l = [a0, a1, a2, a3, a4, a5, a6, a7, a8, a9, a10, a11, a12, a13, a14, a15, a16] := by
  match l, h with
  | [a0, a1, a2, a3, a4, a5, a6, a7, a8, a9, a10, a11, a12, a13, a14, a15, a16], _ => exact ⟨a0, a1, a2, a3, a4, a5, a6, a7, a8, a9, a10, a11, a12, a13, a14, a15, a16, rfl⟩
section
variable {H : Type} {P : Program}
theorem mem_struct {t tj : TypeId} {fs : Array Field} {parts : List (DataW H)} {j : Nat} {dj : DataW H} {n : Nat} (hu : P.underlying t = some (.struct fs)) (ht : (fs.toList.map (·.type))[j]? = some tj) (hd : parts[j]? = some dj) (hn : n ∈ dj.weights P tj) : n ∈ (DataW.agg parts).weights P t := by
  unfold DataW.weights
  rw [hu]
  exact DataW.weights_mem_each ht hd n hn
theorem mem_all {e : TypeId} {l : List (DataW H)} {d : DataW H} {n : Nat} (hd : d ∈ l) (hn : n ∈ d.weights P e) : n ∈ DataW.weightsAll P e l := by
  induction l with
  | nil => cases hd
  | cons x r ih =>
    simp only [DataW.weightsAll, List.mem_append]
    rcases List.mem_cons.1 hd with rfl | h
    · exact Or.inl hn
    · exact Or.inr (ih h)
theorem mem_len {t e : TypeId} {elems spare : List (DataW H)} (hu : P.underlying t = some (.slice e)) : (elems.length + spare.length) * P.bytesOf e ∈ (DataW.slice elems spare).weights P t := by
  unfold DataW.weights
  rw [hu]
  exact List.mem_cons_self
theorem mem_slice {t e : TypeId} {elems spare : List (DataW H)} {d : DataW H} {n : Nat} (hu : P.underlying t = some (.slice e)) (hd : d ∈ elems) (hn : n ∈ d.weights P e) : n ∈ (DataW.slice elems spare).weights P t := by
  unfold DataW.weights
  rw [hu]
  exact List.mem_cons_of_mem _ (List.mem_append.2 (Or.inl (mem_all hd hn)))
theorem mem_lit (t : TypeId) (l : List UInt8) : l.length ∈ (DataW.lit (.string l) : DataW H).weights P t := by simp [DataW.weights]
end
variable {H : Type} {enc : TypeId × Value → H} {w : World} {base : Nat} {spare : Nat → Bool} {held : Bool} {fuel : Nat} {cs : List Value} {x : DataW H × List MemPlace}
theorem op_open (h : DataW.trod enc Tryz.prog w base spare held fuel 30 cs = some x) (hw : ∀ n ∈ x.1.weights Tryz.prog 30, n ≤ reachBytes) : ∃ o : Opx, cs = o.vals.toList ∧ o.Lo := by
  obtain ⟨xs, n, _, hxx, hl, hx, hi⟩ := DataW.trod_struct Tryz.underlying30 h
  rw [cellsOp] at hl
  have hx' : xs.length = 5 := hx
  match xs, hx' with
  | [y0, y1, y2, y3, y4], _ =>
    have g0 : DataW.trod enc Tryz.prog w base spare held n 3 ((cs.drop 0).take (Tryz.prog.cellsOf 3)) = some y0 := hi 0 _ rfl
    have g1 : DataW.trod enc Tryz.prog w base spare held n 3 ((cs.drop 1).take (Tryz.prog.cellsOf 3)) = some y1 := hi 1 _ rfl
    have g2 : DataW.trod enc Tryz.prog w base spare held n 3 ((cs.drop 2).take (Tryz.prog.cellsOf 3)) = some y2 := hi 2 _ rfl
    have g3 : DataW.trod enc Tryz.prog w base spare held n 28 ((cs.drop 3).take (Tryz.prog.cellsOf 28)) = some y3 := hi 3 _ rfl
    have g4 : DataW.trod enc Tryz.prog w base spare held n 9 ((cs.drop 16).take (Tryz.prog.cellsOf 9)) = some y4 := hi 4 _ rfl
    rw [cellsInt] at g0 g1 g2
    rw [cellsCfg] at g3
    rw [cellsStr] at g4
    obtain ⟨kd, e0, _, w0⟩ := DataW.trod_int Tryz.underlying3 g0
    obtain ⟨a, e1, _, w1⟩ := DataW.trod_int Tryz.underlying3 g1
    obtain ⟨nn, e2, _, w2⟩ := DataW.trod_int Tryz.underlying3 g2
    obtain ⟨s, e4, d4, _⟩ := DataW.trod_string Tryz.underlying9 g4
    obtain ⟨zs, n2, _, hzz, hl2, hx2, hi2⟩ := DataW.trod_struct Tryz.underlying28 g3
    have hx2' : zs.length = 8 := hx2
    match zs, hx2' with
    | [z0, z1, z2, z3, z4, z5, z6, z7], _ =>
      obtain ⟨cc, hcc⟩ : ∃ cc, cc = (cs.drop 3).take 13 := ⟨_, rfl⟩
      rw [← hcc] at hi2 hl2
      have q0 : DataW.trod enc Tryz.prog w base spare held n2 26 ((cc.drop 0).take (Tryz.prog.cellsOf 26)) = some z0 := hi2 0 _ rfl
      have q1 : DataW.trod enc Tryz.prog w base spare held n2 9 ((cc.drop 6).take (Tryz.prog.cellsOf 9)) = some z1 := hi2 1 _ rfl
      have q2 : DataW.trod enc Tryz.prog w base spare held n2 3 ((cc.drop 7).take (Tryz.prog.cellsOf 3)) = some z2 := hi2 2 _ rfl
      have q3 : DataW.trod enc Tryz.prog w base spare held n2 9 ((cc.drop 8).take (Tryz.prog.cellsOf 9)) = some z3 := hi2 3 _ rfl
      have q4 : DataW.trod enc Tryz.prog w base spare held n2 3 ((cc.drop 9).take (Tryz.prog.cellsOf 3)) = some z4 := hi2 4 _ rfl
      have q5 : DataW.trod enc Tryz.prog w base spare held n2 3 ((cc.drop 10).take (Tryz.prog.cellsOf 3)) = some z5 := hi2 5 _ rfl
      have q6 : DataW.trod enc Tryz.prog w base spare held n2 3 ((cc.drop 11).take (Tryz.prog.cellsOf 3)) = some z6 := hi2 6 _ rfl
      have q7 : DataW.trod enc Tryz.prog w base spare held n2 3 ((cc.drop 12).take (Tryz.prog.cellsOf 3)) = some z7 := hi2 7 _ rfl
      rw [cellsMac] at q0
      rw [cellsStr] at q1 q3
      rw [cellsInt] at q2 q4 q5 q6 q7
      obtain ⟨k0, k1, k2, k3, k4, k5, f0⟩ := Op.mac_open q0
      obtain ⟨name, f1, d1, _⟩ := DataW.trod_string Tryz.underlying9 q1
      obtain ⟨cap, f2, _, _⟩ := DataW.trod_int Tryz.underlying3 q2
      obtain ⟨dig, f3, d3, _⟩ := DataW.trod_string Tryz.underlying9 q3
      obtain ⟨blk, f4, _, _⟩ := DataW.trod_int Tryz.underlying3 q4
      obtain ⟨win, f5, _, _⟩ := DataW.trod_int Tryz.underlying3 q5
      obtain ⟨rx, f6, _, _⟩ := DataW.trod_int Tryz.underlying3 q6
      obtain ⟨tx, f7, _, _⟩ := DataW.trod_int Tryz.underlying3 q7
      have hr : reachBytes ≤ 140737488355328 := by decide
      have hz : ∀ s : ByteArray, s.data.toList.length = s.size := fun s => by rw [Array.length_toList]; rfl
      have b4 : s.data.toList.length ≤ reachBytes := hw _ (by
        rw [hxx]
        exact mem_struct Tryz.underlying30 (j := 4) rfl rfl (by show _ ∈ DataW.weights Tryz.prog 9 y4.1; rw [show y4.1 = .lit (.string s.data.toList) from congrArg Prod.fst d4]; exact mem_lit _ _))
      have b1 : name.data.toList.length ≤ reachBytes := hw _ (by
        rw [hxx]
        refine mem_struct Tryz.underlying30 (j := 3) rfl rfl ?_
        show _ ∈ DataW.weights Tryz.prog 28 y3.1
        rw [hzz]
        exact mem_struct Tryz.underlying28 (j := 1) rfl rfl (by show _ ∈ DataW.weights Tryz.prog 9 z1.1; rw [show z1.1 = .lit (.string name.data.toList) from congrArg Prod.fst d1]; exact mem_lit _ _))
      have b3 : dig.data.toList.length ≤ reachBytes := hw _ (by
        rw [hxx]
        refine mem_struct Tryz.underlying30 (j := 3) rfl rfl ?_
        show _ ∈ DataW.weights Tryz.prog 28 y3.1
        rw [hzz]
        exact mem_struct Tryz.underlying28 (j := 3) rfl rfl (by show _ ∈ DataW.weights Tryz.prog 9 z3.1; rw [show z3.1 = .lit (.string dig.data.toList) from congrArg Prod.fst d3]; exact mem_lit _ _))
      rw [hz] at b4 b1 b3
      refine ⟨⟨kd, a, nn, ⟨k0, k1, k2, k3, k4, k5, name, cap, dig, blk, win, rx, tx⟩, s⟩, ?_, bdI w1, Nat.le_trans b4 hr, Nat.le_trans b1 hr, Nat.le_trans b3 hr⟩
      obtain ⟨c0, c1, c2, c3, c4, c5, c6, c7, c8, c9, c10, c11, c12, c13, c14, c15, c16, rfl⟩ := list17 cs hl
      subst hcc
      simp at e0 e1 e2 e4 f0 f1 f2 f3 f4 f5 f6 f7
      obtain ⟨r1, r2, r3, r4, r5, r6⟩ := f0
      subst e0 e1 e2 e4 f1 f2 f3 f4 f5 f6 f7 r1 r2 r3 r4 r5 r6
      rfl
theorem ops_open (h : DataW.trod enc Tryz.prog w base spare held fuel 22 cs = some x) (hw : ∀ n ∈ x.1.weights Tryz.prog 22, n ≤ reachBytes) :
    ∃ (sa : Option Addr) (sc : Nat) (ops : List Opx), cs = [.slice sa ops.length sc] ∧ Sp w sa ops ∧ ops.length ≤ 140737488355328 ∧ ∀ o ∈ ops, o.Lo := by
  rcases Go.Deep.open_slice Tryz.underlying22 h with ⟨rfl, rfl⟩ | ⟨a, len, cap, m, n, D, Pl, rfl, _, hlc, _, hm, rfl, hx⟩
  · exact ⟨none, 0, [], rfl, fun j hj => by simp at hj, by simp, fun o ho => by cases ho⟩
  have hlm : len ≤ m := by rw [hm]; split <;> omega
  have hwt : ∀ n, n ∈ ((.slice ((List.range len).map D) ((List.range (m - len)).map fun j => D (len + j)) : DataW H)).weights Tryz.prog 22 → n ≤ reachBytes := hw
  have hlen1 : len ≤ reachBytes := by
    have q := hwt _ (mem_len Tryz.underlying22)
    rw [List.length_map, List.length_map, List.length_range, List.length_range] at q
    have b := bytesOp
    have : len ≤ (len + (m - len)) * Tryz.prog.bytesOf 30 := Nat.le_trans (by omega) (Nat.le_mul_of_pos_right _ b)
    exact Nat.le_trans this q
  obtain ⟨O, hO⟩ := Go.Deep.choose_lt (α := Opx) (n := len) (p := fun i (o : Opx) => (∀ j v, o.vals.toList[j]? = some v → w.cell? ((a.add (i * 17)).add j) = some v) ∧ o.Lo) (fun i hi => by
    obtain ⟨cs', h1, h2⟩ := hx i (by omega)
    obtain ⟨o, ho, hlo⟩ := op_open h2 (fun k hk => hwt k (mem_slice Tryz.underlying22 (List.mem_map.2 ⟨i, List.mem_range.2 hi, rfl⟩) hk))
    rw [cellsOp] at h1
    obtain ⟨_, hl, hc⟩ := World.cells?_some h1
    refine ⟨o, fun j v hv => ?_, hlo⟩
    rw [hc j (by
      have : o.vals.toList.length = 17 := rfl
      have := (List.getElem?_eq_some_iff.1 hv).1
      omega), ho]
    exact hv)
  have hlen : ((List.range len).map O).length = len := by simp
  have hr : reachBytes ≤ 140737488355328 := by decide
  refine ⟨some a, cap, (List.range len).map O, by rw [hlen], fun j hj => ⟨a, rfl, fun i v hv => ?_⟩, by rw [hlen]; exact Nat.le_trans hlen1 hr, fun o ho => ?_⟩
  · rw [hlen] at hj
    refine (hO j hj).1 i v ?_
    simpa using hv
  · obtain ⟨i, hi, rfl⟩ := List.mem_map.1 ho
    exact (hO i (List.mem_range.1 hi)).2
end Go.Proofs.YtbhbbeebncmaiaaGreatDoor.Law
namespace Go.Proofs.YtbhbbeebncmaiaaGreatDoor.Ref
open Go.ChangeShapes Go.WideShapes Go.ChangeAt Go.RowKit Bs Mac
set_option linter.unusedVariables false
set_option linter.unusedSimpArgs false
variable {w0 : World} {P : Nat → Prop} {w w' : World} {G : Nat} {r r' : Rf}
set_option maxHeartbeats 2000000 in
set_option maxRecDepth 10000 in
theorem take_some (h : Rm w0 P w G r) (s : ByteArray) (rest : List ByteArray) (ht : r.tl = s :: rest) (hl : rest.length ≤ 16) : Calls Tryz.prog 20 #[.pointer (some ⟨G, 0, none⟩)] w fun ee w' => ee = .returned (.tuple #[.string s, .bool true]) ∧ ∃ v, Rm w0 P w' G { r with tv := v, tl := rest } := by
  obtain ⟨i0, hi, hz0, hz1, hz2⟩ := info_parts infoS
  have HM := hide h
  have hlen : r.tl.length = rest.length + 1 := by rw [ht]; rfl
  obtain ⟨g, cp, hv, hnc, hcm, hcells⟩ := own_some h.goes (by rw [hlen]; omega)
  have x0 : w.cell? ⟨g, 0, none⟩ = some (.string s) := hcells 0 _ (by rw [ht]; rfl)
  have c15 := h.c15
  have f15 := h.free 15
  rw [hv, hlen] at c15
  have HC := hide hcells
  have HV := hide hv
  obtain ⟨q, hq⟩ : ∃ q, q = rest.length := ⟨_, rfl⟩
  rw [← hq] at c15 hlen
  have hd0 : ((((q + 1 : Nat) : Int)) == 0) = false := by rw [beq_eq_false_iff_ne]; omega
  have hd1 : (1 : Int) ≤ ((q + 1 : Nat) : Int) := by omega
  have hd2 : (0 : Int) < ((q + 1 : Nat) : Int) := by omega
  rw [hlen] at hnc
  have HDR := hide ht
  have HNN := hide hq
  have hnn : q ≤ 16 := by omega
  clear h hcells hv ht hcm hlen hl hq
  by_cases hcp : cp = 1
  · subst hcp
    have hq0 : q = 0 := by omega
    subst hq0
    have hnil : rest = [] := List.eq_nil_of_length_eq_zero (unhide HNN).symm
    have HNIL := hide hnil
    clear hnil hd0 hd1 hd2 hnn
    go_enter Tryz.func20, Tryz.ntmps20
    go_wp2_with (at_builtin; refine wpList_append_mine rfl (.const (.slice none 0 0)) (.tmp 22) 49 rfl 0 9 i0 (.string ⟨#[]⟩) 1 16 Tryz.underlying49 hi hz0 hz1 hz2 rfl (by decide) (.slice none 0 0) 0 [] rfl (World.ownsRow_nil _ _ _ _) ⟨g, 0, none⟩ 0 0 [] rfl ?ln ?c1 ?one ?h63 ?hby ?hba ?_)
    case ln => rfl
    case c1 =>
      intro j u hj; simp at hj
    case one => intro u hu; simp at hu
    case h63 => simp only [maxLen]; omega
    case hby => omega
    case hba => exact Nat.zero_le _
    intro v' w2 hown hg hf
    have HN := hide ((unhide HM).rowsT (r' := { r with tv := v', tl := rest }) (l := rest) hg (Or.inl rfl) (by rw [unhide HNIL]; exact hown) (by
      rcases hf with h | h
      · exact Or.inl h
      · exact Or.inr (Or.inr h)) rfl rfl rfl rfl rfl)
    have hrow := (unhide HM).after hg (Or.inl rfl)
    have e15 := (World.cell?_of_block (w := w) (a := ⟨G, 15, none⟩) hrow).trans c15
    have k15 := (World.frozen?_of_block (w := w) (a := ⟨G, 15, none⟩) hrow).trans f15
    obtain ⟨a2, c2, hv2⟩ := own_sl hown
    clear hown hg hf hrow c15 f15 x0 HC HV HDR HNN
    subst hv2
    go_wp2
    go_ret2
    exact ⟨rfl, _, unhide HN⟩
  · go_enter Tryz.func20, Tryz.ntmps20
    go_wp2_with (at_builtin; refine wpList_append_mine rfl (.const (.slice none 0 0)) (.tmp 22) 49 rfl 0 9 i0 (.string ⟨#[]⟩) 1 16 Tryz.underlying49 hi hz0 hz1 hz2 rfl (by decide) (.slice none 0 0) 0 [] rfl (World.ownsRow_nil _ _ _ _) ⟨g, 1, none⟩ q (cp - 1) (strs rest) rfl ?ln ?c1 ?one ?h63 ?hby ?hba ?_)
    case ln => rw [strs_length, ← unhide HNN]
    case c1 =>
      intro j u hj
      have q1 := unhide HC (j + 1) u (by rw [unhide HDR]; exact hj)
      rw [show (⟨g, 1, none⟩ : Addr).add j = ⟨g, j + 1, none⟩ from by simp [Addr.add_lit, Nat.add_comm]]
      exact q1
    case one => intro u hu; unfold strs at hu; obtain ⟨x, _, rfl⟩ := List.mem_map.1 hu; rfl
    case h63 => simp only [maxLen]; omega
    case hby => omega
    case hba => exact Nat.zero_le _
    intro v' w2 hown hg hf
    have HN := hide ((unhide HM).rowsT (r' := { r with tv := v', tl := rest }) (l := rest) hg (Or.inl rfl) (by rw [← unhide HNN]; exact hown) (by
      rcases hf with h | h
      · exact Or.inl h
      · exact Or.inr (Or.inr h)) rfl rfl rfl rfl rfl)
    have hrow := (unhide HM).after hg (Or.inl rfl)
    have e15 := (World.cell?_of_block (w := w) (a := ⟨G, 15, none⟩) hrow).trans c15
    have k15 := (World.frozen?_of_block (w := w) (a := ⟨G, 15, none⟩) hrow).trans f15
    obtain ⟨a2, c2, hv2⟩ := own_sl hown
    clear hown hg hf hrow c15 f15 x0 HC HV HDR HNN
    subst hv2
    go_wp2
    go_ret2
    exact ⟨rfl, _, unhide HN⟩
end Go.Proofs.YtbhbbeebncmaiaaGreatDoor.Ref
