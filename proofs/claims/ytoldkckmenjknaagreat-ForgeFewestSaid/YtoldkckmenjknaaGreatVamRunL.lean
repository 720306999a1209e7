/- The law answers true: a run of the plain machine, by the kernel, with the second table. -/
import Derived.Test.YtoldkckmenjknaaGreatProg
import Derived.Test.YtoldkckmenjknaaGreatVamTab2
import Derived.KernelRfl
namespace Go.Proofs.YtoldkckmenjknaaGreat.works
open Vam
end Go.Proofs.YtoldkckmenjknaaGreat.works
