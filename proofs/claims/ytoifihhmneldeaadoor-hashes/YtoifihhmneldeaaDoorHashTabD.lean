import Derived.Test.YtoifihhmneldeaaDoorHashRoot
namespace Go.Proofs.YtoifihhmneldeaaDoor.Ht

/-! the words of the rounds, each out of its prime, by the kernel's own reckoning (one theorem each: all in one take too much memory) -/
theorem root3_227 : rootF 227 3 = 430227734 := by kernel_rfl
theorem root3_229 : rootF 229 3 = 506948616 := by kernel_rfl
theorem root3_233 : rootF 233 3 = 659060556 := by kernel_rfl
theorem root3_239 : rootF 239 3 = 883997877 := by kernel_rfl
theorem root3_241 : rootF 241 3 = 958139571 := by kernel_rfl
theorem root3_251 : rootF 251 3 = 1322822218 := by kernel_rfl
theorem root3_257 : rootF 257 3 = 1537002063 := by kernel_rfl
theorem root3_263 : rootF 263 3 = 1747873779 := by kernel_rfl
theorem root3_269 : rootF 269 3 = 1955562222 := by kernel_rfl
theorem root3_271 : rootF 271 3 = 2024104815 := by kernel_rfl
theorem root3_277 : rootF 277 3 = 2227730452 := by kernel_rfl
theorem root3_281 : rootF 281 3 = 2361852424 := by kernel_rfl
theorem root3_283 : rootF 283 3 = 2428436474 := by kernel_rfl
theorem root3_293 : rootF 293 3 = 2756734187 := by kernel_rfl
theorem root3_307 : rootF 307 3 = 3204031479 := by kernel_rfl
theorem root3_311 : rootF 311 3 = 3329325298 := by kernel_rfl
end Go.Proofs.YtoifihhmneldeaaDoor.Ht
