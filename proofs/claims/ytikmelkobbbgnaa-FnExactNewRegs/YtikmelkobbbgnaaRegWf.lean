/- Registers whose numbers are ints. -/
import Derived.Test.YtikmelkobbbgnaaRegPl
namespace Go.Proofs.Ytikmelkobbbgnaa
open Go.RowKit
/-- the numbers of registers that came in are ints -/
structure Pl.WfR (d : Pl.Rg) : Prop where
  o : (Lit.int .i64 d.o).wf = true
  p : (Lit.int .i64 d.p).wf = true
  f : (Lit.int .i64 d.f).wf = true
  m : (Lit.int .i64 d.m).wf = true
end Go.Proofs.Ytikmelkobbbgnaa
