import Derived.Test.YtbhbbeebncmaiaaGreatDoorMgZ07
import Derived.Test.YtbhbbeebncmaiaaGreatDoorMgZ09
namespace Go.Proofs.YtbhbbeebncmaiaaGreatDoor.Dh
open Go.ChangeShapes Go.WideShapes Go.ChangeAt Go.RowKit Bs Wt
set_option linter.unusedVariables false
theorem str_size (l:List UInt8):(⟨l.toArray⟩:ByteArray).size=l.length:=by show l.toArray.size=_; simp
theorem str_take (l:List UInt8) (n:Nat):(⟨l.toArray⟩:ByteArray).extract 0 n=⟨(l.take n).toArray⟩:=by
 apply ByteArray.ext
 rw [ByteArray.data_extract]
 apply Array.ext'
 simp
theorem str_drop (l:List UInt8) (n:Nat):(⟨l.toArray⟩:ByteArray).extract n (⟨l.toArray⟩:ByteArray).size=⟨(l.drop n).toArray⟩:=by
 apply ByteArray.ext
 rw [ByteArray.data_extract,str_size]
 apply Array.ext'
 simp
 rw [List.take_of_length_le (by simp)]

def At (w:World) (a:Option Addr) (os:Opts):Prop :=
 ∀ i (h:i<os.length),∃ ad,a=some ad∧w.cell? (ad.add (i*2))=some (.int .u8 os[i].1.toNat)∧w.cell? ⟨(ad.add (i*2)).block,(ad.add (i*2)).off+1,none⟩=some (.string ⟨os[i].2.toArray⟩)
theorem cell_lt {w:World} {p:Addr} {v:Value} (h:w.cell? p=some v):p.block<w.heap.size:=by
 by_cases hlt:p.block<w.heap.size
 ·exact hlt
 ·have hn:w.heap[p.block]?=none:=by simp; omega
  simp [World.cell?,hn] at h
theorem At.below {w w':World} {a:Option Addr} {os:Opts} {n:Nat} (h:At w a os) (hb:Below n w w') (hn:w.heap.size≤n):At w' a os:=fun i hi=>by
 obtain ⟨ad,e,h0,h1⟩:=h i hi
 have l0:=cell_lt h0
 refine ⟨ad,e,?_,?_⟩
 ·rw [hb.cell (by omega)]; exact h0
 ·rw [hb.cell (by show (ad.add (i*2)).block<n; omega)]; exact h1
theorem add_block (ad:Addr) (n:Nat):(ad.add n).block=ad.block:=by unfold Addr.add; split <;> rfl
end Go.Proofs.YtbhbbeebncmaiaaGreatDoor.Dh
