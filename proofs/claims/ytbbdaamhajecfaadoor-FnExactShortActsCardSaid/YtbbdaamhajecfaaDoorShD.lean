/- Both ShortActs. -/
import Derived.Test.YtbbdaamhajecfaaDoorShH
import Derived.Test.YtbbdaamhajecfaaDoorShI
