/- FnSpan's walk and the arguments' opening. -/
import Derived.Test.YtphklknaagjmpaaSpFL
import Derived.Test.YtphklknaagjmpaaCodeO
