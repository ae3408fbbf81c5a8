import Derived.Test.YtoifihhmneldeaaDoorHashRoot
namespace Go.Proofs.YtoifihhmneldeaaDoor.Ht

/-! the words of the rounds, each out of its prime, by the kernel's own reckoning (one theorem each: all in one take too much memory) -/
theorem root3_137 : rootF 137 3 = 666307205 := by kernel_rfl
theorem root3_139 : rootF 139 3 = 773529912 := by kernel_rfl
theorem root3_149 : rootF 149 3 = 1294757372 := by kernel_rfl
theorem root3_151 : rootF 151 3 = 1396182291 := by kernel_rfl
theorem root3_157 : rootF 157 3 = 1695183700 := by kernel_rfl
theorem root3_163 : rootF 163 3 = 1986661051 := by kernel_rfl
theorem root3_167 : rootF 167 3 = 2177026350 := by kernel_rfl
theorem root3_173 : rootF 173 3 = 2456956037 := by kernel_rfl
theorem root3_179 : rootF 179 3 = 2730485921 := by kernel_rfl
theorem root3_181 : rootF 181 3 = 2820302411 := by kernel_rfl
theorem root3_191 : rootF 191 3 = 3259730800 := by kernel_rfl
theorem root3_193 : rootF 193 3 = 3345764771 := by kernel_rfl
theorem root3_197 : rootF 197 3 = 3516065817 := by kernel_rfl
theorem root3_199 : rootF 199 3 = 3600352804 := by kernel_rfl
theorem root3_211 : rootF 211 3 = 4094571909 := by kernel_rfl
theorem root3_223 : rootF 223 3 = 275423344 := by kernel_rfl
end Go.Proofs.YtoifihhmneldeaaDoor.Ht
