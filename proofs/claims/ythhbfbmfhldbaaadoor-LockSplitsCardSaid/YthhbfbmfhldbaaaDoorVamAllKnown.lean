import Derived.Test.YthhbfbmfhldbaaaDoorVamTab1
import Derived.Test.YthhbfbmfhldbaaaDoorVamRunP
namespace Go.Proofs.YthhbfbmfhldbaaaDoor.played
open Vam
theorem mixed : Tryd.prog.follows .mixedOrders = true := by kernel_rfl
theorem kL0 : KnownOk Tryd.prog tL0 := noKnown_ok
theorem known1 : KnownOk Tryd.prog tab1 := kL0
end Go.Proofs.YthhbfbmfhldbaaaDoor.played
