import Derived.Test.YtoifihhmneldeaaDoorHashPrimes
import Derived.Test.YtoifihhmneldeaaDoorHashTabA
import Derived.Test.YtoifihhmneldeaaDoorHashTabB
import Derived.Test.YtoifihhmneldeaaDoorHashTabC
import Derived.Test.YtoifihhmneldeaaDoorHashTabD
namespace Go.Proofs.YtoifihhmneldeaaDoor.Ht
def tabP : List Int := [2, 3, 5, 7, 11, 13, 17, 19, 23, 29, 31, 37, 41, 43, 47, 53, 59, 61, 67, 71, 73, 79, 83, 89, 97, 101, 103, 107, 109, 113, 127, 131, 137, 139, 149, 151, 157, 163, 167, 173, 179, 181, 191, 193, 197, 199, 211, 223, 227, 229, 233, 239, 241, 251, 257, 263, 269, 271, 277, 281, 283, 293, 307, 311]
def tabK : List Int := [1116352408, 1899447441, 3049323471, 3921009573, 961987163, 1508970993, 2453635748, 2870763221, 3624381080, 310598401, 607225278, 1426881987, 1925078388, 2162078206, 2614888103, 3248222580, 3835390401, 4022224774, 264347078, 604807628, 770255983, 1249150122, 1555081692, 1996064986, 2554220882, 2821834349, 2952996808, 3210313671, 3336571891, 3584528711, 113926993, 338241895, 666307205, 773529912, 1294757372, 1396182291, 1695183700, 1986661051, 2177026350, 2456956037, 2730485921, 2820302411, 3259730800, 3345764771, 3516065817, 3600352804, 4094571909, 275423344, 430227734, 506948616, 659060556, 883997877, 958139571, 1322822218, 1537002063, 1747873779, 1955562222, 2024104815, 2227730452, 2361852424, 2428436474, 2756734187, 3204031479, 3329325298]
def tabH : List Int := [1779033703, 3144134277, 1013904242, 2773480762, 1359893119, 2600822924, 528734635, 1541459225]
theorem tab_P : primeL 310 = tabP := by kernel_rfl
theorem tab_K : tabP.map (fun p => rootF p 3) = tabK := by
  simp only [tabP, tabK, List.map_cons, List.map_nil, root3_2, root3_3, root3_5, root3_7, root3_11, root3_13, root3_17, root3_19, root3_23, root3_29, root3_31, root3_37, root3_41, root3_43, root3_47, root3_53, root3_59, root3_61, root3_67, root3_71, root3_73, root3_79, root3_83, root3_89, root3_97, root3_101, root3_103, root3_107, root3_109, root3_113, root3_127, root3_131, root3_137, root3_139, root3_149, root3_151, root3_157, root3_163, root3_167, root3_173, root3_179, root3_181, root3_191, root3_193, root3_197, root3_199, root3_211, root3_223, root3_227, root3_229, root3_233, root3_239, root3_241, root3_251, root3_257, root3_263, root3_269, root3_271, root3_277, root3_281, root3_283, root3_293, root3_307, root3_311]
theorem tab_H : (tabP.take 8).map (fun p => rootF p 2) = tabH := by
  simp only [tabP, tabH, List.take_succ_cons, List.take_zero, List.map_cons, List.map_nil, root2_2, root2_3, root2_5, root2_7, root2_11, root2_13, root2_17, root2_19]
end Go.Proofs.YtoifihhmneldeaaDoor.Ht
