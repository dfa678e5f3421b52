/- The law on ranks over what came in. -/
import Derived.Test.YtjhcphmehlihcaaRkD
import Derived.Test.YtjhcphmehlihcaaCodeO
