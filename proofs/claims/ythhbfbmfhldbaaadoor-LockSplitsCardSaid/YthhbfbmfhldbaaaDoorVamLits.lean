import Derived.Test.YthhbfbmfhldbaaaDoorVamI
namespace Go.Proofs.YthhbfbmfhldbaaaDoor.played
open Vam
theorem mixedStays (b : Bool) : Stays (.bool b) := ⟨rfl, fun _ _ _ => rfl⟩
end Go.Proofs.YthhbfbmfhldbaaaDoor.played
