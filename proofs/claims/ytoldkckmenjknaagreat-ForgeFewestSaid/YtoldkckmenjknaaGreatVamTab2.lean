/- The second table. -/
import Derived.Test.YtoldkckmenjknaaGreatVamTab1
namespace Go.Proofs.YtoldkckmenjknaaGreat.works
open Vam
end Go.Proofs.YtoldkckmenjknaaGreat.works
