import Derived.Test.YthhbfbmfhldbaaaDoorVamLits
namespace Go.Proofs.YthhbfbmfhldbaaaDoor.played
open Vam
noncomputable def tL0 : Known := noKnown
noncomputable def iL0 (_ : Go.FuncId) : Bool := false
noncomputable abbrev tab1 : Known := tL0
noncomputable abbrev is1 : Go.FuncId → Bool := iL0
end Go.Proofs.YthhbfbmfhldbaaaDoor.played
