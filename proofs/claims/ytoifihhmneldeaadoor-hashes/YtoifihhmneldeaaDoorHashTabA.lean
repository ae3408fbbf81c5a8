import Derived.Test.YtoifihhmneldeaaDoorHashRoot
namespace Go.Proofs.YtoifihhmneldeaaDoor.Ht

/-! the words of the rounds, each out of its prime, by the kernel's own reckoning (one theorem each: all in one take too much memory) -/
theorem root3_2 : rootF 2 3 = 1116352408 := by kernel_rfl
theorem root3_3 : rootF 3 3 = 1899447441 := by kernel_rfl
theorem root3_5 : rootF 5 3 = 3049323471 := by kernel_rfl
theorem root3_7 : rootF 7 3 = 3921009573 := by kernel_rfl
theorem root3_11 : rootF 11 3 = 961987163 := by kernel_rfl
theorem root3_13 : rootF 13 3 = 1508970993 := by kernel_rfl
theorem root3_17 : rootF 17 3 = 2453635748 := by kernel_rfl
theorem root3_19 : rootF 19 3 = 2870763221 := by kernel_rfl
theorem root3_23 : rootF 23 3 = 3624381080 := by kernel_rfl
theorem root3_29 : rootF 29 3 = 310598401 := by kernel_rfl
theorem root3_31 : rootF 31 3 = 607225278 := by kernel_rfl
theorem root3_37 : rootF 37 3 = 1426881987 := by kernel_rfl
theorem root3_41 : rootF 41 3 = 1925078388 := by kernel_rfl
theorem root3_43 : rootF 43 3 = 2162078206 := by kernel_rfl
theorem root3_47 : rootF 47 3 = 2614888103 := by kernel_rfl
theorem root3_53 : rootF 53 3 = 3248222580 := by kernel_rfl
theorem root2_2 : rootF 2 2 = 1779033703 := by kernel_rfl
theorem root2_3 : rootF 3 2 = 3144134277 := by kernel_rfl
theorem root2_5 : rootF 5 2 = 1013904242 := by kernel_rfl
theorem root2_7 : rootF 7 2 = 2773480762 := by kernel_rfl
theorem root2_11 : rootF 11 2 = 1359893119 := by kernel_rfl
theorem root2_13 : rootF 13 2 = 2600822924 := by kernel_rfl
theorem root2_17 : rootF 17 2 = 528734635 := by kernel_rfl
theorem root2_19 : rootF 19 2 = 1541459225 := by kernel_rfl
end Go.Proofs.YtoifihhmneldeaaDoor.Ht
