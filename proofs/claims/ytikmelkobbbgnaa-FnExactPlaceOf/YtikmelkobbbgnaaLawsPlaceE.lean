/- What the program's PlaceOf answers, as the law on it takes it. -/
import Derived.Test.YtikmelkobbbgnaaLawsPlaceOf
import Derived.Test.YtikmelkobbbgnaaImplRegL
namespace Go.Proofs.Ytikmelkobbbgnaa
open Go.RowKit
theorem placeImpl : PlaceImpl := implPlaceOf
end Go.Proofs.Ytikmelkobbbgnaa
