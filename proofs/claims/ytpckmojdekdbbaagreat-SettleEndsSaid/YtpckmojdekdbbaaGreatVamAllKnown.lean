import Derived.Test.YtpckmojdekdbbaaGreatVamTab1
import Derived.Test.YtpckmojdekdbbaaGreatVamRunP
namespace Go.Proofs.YtpckmojdekdbbaaGreat.works
open Vam
theorem mixed : Tryz.prog.follows .mixedOrders = true := by kernel_rfl
theorem kL0 : KnownOk Tryz.prog tL0 := noKnown_ok
theorem known1 : KnownOk Tryz.prog tab1 := kL0
end Go.Proofs.YtpckmojdekdbbaaGreat.works
