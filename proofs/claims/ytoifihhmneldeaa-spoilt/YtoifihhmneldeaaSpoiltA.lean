import Derived.Test.YtoifihhmneldeaaSpoiltPick
import Derived.Laws.AppendOwn
namespace Go.Proofs.Ytoifihhmneldeaa.Sp
open Go.ChangeShapes Go.WideShapes Go.ChangeAt Go.RowKit Bs Rd IpK UdK
open Ip (chk chk_bd headL headL_length headL_put ipL)
open Ud (udpP udp0 udpQ udpC udpL)
set_option linter.unusedVariables false

theorem wIP (load : ByteArray) (hl : load.size ≤ 1000) (s : ByteArray) (hs : s = ⟨(ipL 7 64 17 167772161 167772215 load).toArray⟩) (u : World) :
    Calls Try.prog 7 #[.agg #[.int .u16 7, .int .u8 64, .int .u8 17, .int .u32 167772161, .int .u32 167772215, .string load]] u fun ee w' => ee = .returned (.tuple #[.string s, .int .i64 0]) ∧ Below u.heap.size u w' := by
  have h := Ip.boot_any 7 64 17 167772161 167772215 load u (by omega) (by omega) (by omega) (by omega) (by omega) (by omega)
  have e1 : Ip.ipS 7 64 17 167772161 167772215 load = s := by rw [hs]; simp [Ip.ipS]; omega
  have e2 : Ip.ipE 64 load = 0 := by simp [Ip.ipE]; omega
  rw [e1, e2] at h
  exact h
theorem wUDP (load : ByteArray) (hl : load.size ≤ 1000) (s : ByteArray) (hs : s = ⟨(udpL 5 6 167772161 167772215 load).toArray⟩) (u : World) :
    Calls Try.prog 10 #[.agg #[.int .u16 5, .int .u16 6, .string load], .int .u32 167772161, .int .u32 167772215] u fun ee w' => ee = .returned (.tuple #[.string s, .int .i64 0]) ∧ Below u.heap.size u w' := by
  have h := Ud.boot_any 5 6 167772161 167772215 load u (by omega) (by omega) (by omega) (by omega) (by omega)
  have e1 : Ud.udpS 5 6 167772161 167772215 load = s := by rw [hs]; simp [Ud.udpS]; omega
  have e2 : Ud.udpE load = 0 := by simp [Ud.udpE]; omega
  rw [e1, e2] at h
  exact h
theorem rIP (l : List UInt8) (hl : l.length ≤ 262144) : ∃ f0 f1 f2 f3 f4 f5, ∀ u : World, Calls Try.prog 8 #[.string ⟨l.toArray⟩] u fun ee w' => ee = .returned (.tuple #[.agg #[.int .u16 f0, .int .u8 f1, .int .u8 f2, .int .u32 f3, .int .u32 f4, .string f5], .int .i64 (ipK l)]) ∧ Below u.heap.size u w' :=
  ⟨_, _, _, _, _, _, fun u => IpR.code_any ⟨l.toArray⟩ l (by simp) u (by rw [str_size]; exact hl)⟩
theorem rUDP (l : List UInt8) (fr ta : Int) (hl : l.length ≤ 262144) (hf : 0 ≤ fr ∧ fr ≤ 4294967295) (ho : 0 ≤ ta ∧ ta ≤ 4294967295) : ∃ f0 f1 f2, ∀ u : World, Calls Try.prog 11 #[.string ⟨l.toArray⟩, .int .u32 fr, .int .u32 ta] u fun ee w' => ee = .returned (.tuple #[.agg #[.int .u16 f0, .int .u16 f1, .string f2], .int .i64 (udK l fr ta)]) ∧ Below u.heap.size u w' :=
  ⟨_, _, _, fun u => UdR.code_any ⟨l.toArray⟩ l (by simp) fr ta u (by rw [str_size]; exact hl) hf ho⟩

/-- bytes l in block g -/
def Row8 (w : World) (g : Nat) (l : List UInt8) : Prop := ∃ cur N, w.heap[g]? = some (.cells cur 5 (N, N + 1)) ∧ l.length ≤ N ∧ N = cur.size ∧ ∀ j (hj : j < l.length), cur[j]? = some (.int .u8 l[j].toNat)
theorem Row8.cell {w : World} {g : Nat} {l : List UInt8} (h : Row8 w g l) (j : Nat) (hj : j < l.length) : w.cell? ⟨g, j, none⟩ = some (.int .u8 l[j].toNat) := by
  obtain ⟨cur, N, h0, h1, h2, h3⟩ := h
  rw [cell_of_row w g j _ _ _ h0]; exact h3 j hj
theorem Row8.free {w : World} {g : Nat} {l : List UInt8} (h : Row8 w g l) (j : Nat) (hj : j < l.length) : w.frozen? ⟨g, j, none⟩ = false := by
  obtain ⟨cur, N, h0, h1, h2, h3⟩ := h
  simp [World.frozen?, h0]; omega
theorem Row8.turned {w : World} {g : Nat} {l : List UInt8} (h : Row8 w g l) (j : Nat) (hj : j < l.length) (x : UInt8) : Row8 (w.setCell ⟨g, j, none⟩ (.int .u8 x.toNat)).drew g (l.set j x) := by
  obtain ⟨cur, N, h0, h1, h2, h3⟩ := h
  refine ⟨cur.setIfInBounds j (.int .u8 x.toNat), N, ?_, by simpa using h1, by simpa using h2, fun k hk => ?_⟩
  · show (w.setCell ⟨g, j, none⟩ (.int .u8 x.toNat)).heap[g]? = _
    rw [setCell_eq_setRow w g j cur _ (N, N + 1) _ h0]
    exact setRow_heap w g cur _ _ _ h0
  · rw [Array.getElem?_setIfInBounds]
    by_cases e : j = k
    · subst e
      rw [if_pos rfl, if_pos (by omega)]
      simp
    · rw [if_neg e]
      have hk' : k < l.length := by simpa using hk
      rw [h3 k hk', List.getElem_set_ne e]
theorem Row8.back {w : World} {g : Nat} {l : List UInt8} (h : Row8 w g l) (n cap : Nat) (hn : n = l.length) : (convert 35 9 (.slice (some ⟨g, 0, none⟩) n cap)).run Try.prog w = .ok (.string ⟨l.toArray⟩) w := by
  subst hn
  exact run_convert_bytes_back w _ _ 5 ⟨g, 0, none⟩ cap l Try.underlying35 Try.underlying5 Try.underlying9 (fun j hj => by rw [add_lit']; exact h.cell j hj)
theorem Row8.later {w w' : World} {g : Nat} {l : List UInt8} (h : Row8 w g l) (hb : Below w.heap.size w w') : Row8 w' g l := by
  obtain ⟨cur, N, h0, h1⟩ := h
  exact ⟨cur, N, (hb.block g (lt_of_block h0)).trans h0, h1⟩
theorem conv_to (w : World) (s : ByteArray) (l : List UInt8) (hl : s.data.toList = l) (g : Nat) (hg : g = w.heap.size) : ∃ cap W', s.size ≤ cap ∧ (convert 9 35 (.string s)).run Try.prog w = .ok (.slice (some ⟨g, 0, none⟩) s.size cap) W' ∧ Row8 W' g l ∧ Below w.heap.size w W' ∧ W'.heap.size = g + 1 := by
  subst hg hl
  refine ⟨_, _, grownCap_ge w s.size 0 5, run_bytes_of_string (P := Try.prog) w 9 35 5 s Try.underlying9 Try.underlying35 Try.underlying5, ?_, ?_, ?_⟩
  · refine ⟨_, _, heap_alloc_new w.drew _, ?_, rfl, fun j hj => ?_⟩
    · have hls := len_str s
      simp [bytesRow]
    · have hj' : j < s.data.size := by simpa using hj
      rw [bytesRow_at s _ j hj']
      simp
  · exact ((Below.refl _ w).drew).alloc (Nat.le_refl _) _
  · show (w.drew.alloc _).heap.size = _
    simp
end Go.Proofs.Ytoifihhmneldeaa.Sp
