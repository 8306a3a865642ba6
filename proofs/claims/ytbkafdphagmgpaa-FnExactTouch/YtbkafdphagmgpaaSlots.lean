/- (what stood here stands in Frame now) -/
import Derived.Test.YtbkafdphagmgpaaFrame
import Derived.Test.YtbkafdphagmgpaaAccs2
