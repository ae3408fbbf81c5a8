import Derived.Test.YtadkcdcdgphhpaaTFRefX
import Derived.Test.YtadkcdcdgphhpaaTFRefY
namespace Go.Proofs.Ytadkcdcdgphhpaa.Tf
open Go.ChangeShapes Go.WideShapes Go.ChangeAt Go.RowKit Bs
set_option linter.unusedVariables false

theorem ref_any (o bl : Int) (ts ds : ByteArray) (fa : Option Addr) (fc : Nat) (m : Msg) (w : World) (hop : (m.op : Int) = o) (h65 : o ≤ 65535) (hbl : (m.block : Int) = bl) (hb0 : 0 ≤ bl) (hb1 : bl ≤ 65535) (hts : ts.data.toList = m.text) (hds : ds.data.toList = m.data) (hA : AtF w fa m.fs) (hcap : m.fs.length ≤ fc) (hl : heavyF m.fs ≤ 1048576) (ht : m.text.length ≤ 1048576) (hd : m.data.length ≤ 1048576) :
    Calls Try.prog 42 #[.agg #[.int .u16 o, .int .u16 bl, .string ts, .string ds, .slice fa m.fs.length fc]] w fun e w' => e = .returned (.tuple #[.string ⟨(wrB m).toArray⟩, .int .i64 (wrK m)]) ∧ Below w.heap.size w w' := by
  by_cases h1 : o = 1
  · subst h1; exact ref_1 bl ts ds fa fc m w hop hbl hb0 hb1 hts hds hA hcap hl ht hd
  by_cases h6 : o = 6
  · subst h6; exact ref_6 bl ts ds fa fc m w hop hbl hb0 hb1 hts hds hA hcap hl ht hd
  by_cases h3 : o = 3
  · subst h3; exact ref_3 bl ts ds fa fc m w hop hbl hb0 hb1 hts hds hA hcap hl ht hd
  by_cases h4 : o = 4
  · subst h4; exact ref_4 bl ts ds fa fc m w hop hbl hb0 hb1 hts hds hA hcap hl ht hd
  by_cases h5 : o = 5
  · subst h5; exact ref_5 bl ts ds fa fc m w hop hbl hb0 hb1 hts hds hA hcap hl ht hd
  exact ref_x o bl ts ds fa fc m w hop h65 ⟨h1, h6, h3, h4, h5⟩ hbl hb0 hb1 hts hds hA hcap hl ht hd
end Go.Proofs.Ytadkcdcdgphhpaa.Tf
