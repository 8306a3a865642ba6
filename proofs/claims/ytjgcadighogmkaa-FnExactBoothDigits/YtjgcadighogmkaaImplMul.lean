/- What the program's functions of chapter 9 answer, gathered; and CountOnes of chapter 3. -/
import Derived.Test.YtjgcadighogmkaaImplStp
import Derived.Test.YtjgcadighogmkaaImplRoot
import Derived.Test.YtjgcadighogmkaaImplBits
