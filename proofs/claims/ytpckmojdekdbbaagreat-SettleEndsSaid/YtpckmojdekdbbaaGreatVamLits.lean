import Derived.Test.YtpckmojdekdbbaaGreatVamI
namespace Go.Proofs.YtpckmojdekdbbaaGreat.works
open Vam
theorem mixedStays (b : Bool) : Stays (.bool b) := ⟨rfl, fun _ _ _ => rfl⟩
end Go.Proofs.YtpckmojdekdbbaaGreat.works
