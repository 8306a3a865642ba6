/- What the program's StepDevice answers, as the law on it takes it. -/
import Derived.Test.YtlocilcnmbmikaaLawsStepD
import Derived.Test.YtlocilcnmbmikaaImplStepD
namespace Go.Proofs.Ytlocilcnmbmikaa
open Go.RowKit
theorem stepImpl : StepImpl := implStepDevice
end Go.Proofs.Ytlocilcnmbmikaa
