import Derived.Test.YtpckmojdekdbbaaGreatVamLits
namespace Go.Proofs.YtpckmojdekdbbaaGreat.works
open Vam
noncomputable def tL0 : Known := noKnown
noncomputable def iL0 (_ : Go.FuncId) : Bool := false
noncomputable abbrev tab1 : Known := tL0
noncomputable abbrev is1 : Go.FuncId → Bool := iL0
end Go.Proofs.YtpckmojdekdbbaaGreat.works
