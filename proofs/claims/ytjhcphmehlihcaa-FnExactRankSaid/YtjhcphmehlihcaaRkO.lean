/- The law on Rank over what came in. -/
import Derived.Test.YtjhcphmehlihcaaRkV
import Derived.Test.YtjhcphmehlihcaaUsO
