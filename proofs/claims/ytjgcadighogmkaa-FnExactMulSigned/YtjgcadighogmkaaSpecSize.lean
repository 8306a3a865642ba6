/- What the model's test of a size answers. -/
import Derived.Test.YtjgcadighogmkaaBase
namespace Go.Proofs.Ytjgcadighogmkaa
open Go.RowKit
set_option linter.unusedVariables false

end Go.Proofs.Ytjgcadighogmkaa
