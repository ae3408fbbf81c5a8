import Derived.Test.YtoifihhmneldeaaDoorHashRoot
namespace Go.Proofs.YtoifihhmneldeaaDoor.Ht

/-! the words of the rounds, each out of its prime, by the kernel's own reckoning (one theorem each: all in one take too much memory) -/
theorem root3_59 : rootF 59 3 = 3835390401 := by kernel_rfl
theorem root3_61 : rootF 61 3 = 4022224774 := by kernel_rfl
theorem root3_67 : rootF 67 3 = 264347078 := by kernel_rfl
theorem root3_71 : rootF 71 3 = 604807628 := by kernel_rfl
theorem root3_73 : rootF 73 3 = 770255983 := by kernel_rfl
theorem root3_79 : rootF 79 3 = 1249150122 := by kernel_rfl
theorem root3_83 : rootF 83 3 = 1555081692 := by kernel_rfl
theorem root3_89 : rootF 89 3 = 1996064986 := by kernel_rfl
theorem root3_97 : rootF 97 3 = 2554220882 := by kernel_rfl
theorem root3_101 : rootF 101 3 = 2821834349 := by kernel_rfl
theorem root3_103 : rootF 103 3 = 2952996808 := by kernel_rfl
theorem root3_107 : rootF 107 3 = 3210313671 := by kernel_rfl
theorem root3_109 : rootF 109 3 = 3336571891 := by kernel_rfl
theorem root3_113 : rootF 113 3 = 3584528711 := by kernel_rfl
theorem root3_127 : rootF 127 3 = 113926993 := by kernel_rfl
theorem root3_131 : rootF 131 3 = 338241895 := by kernel_rfl
end Go.Proofs.YtoifihhmneldeaaDoor.Ht
