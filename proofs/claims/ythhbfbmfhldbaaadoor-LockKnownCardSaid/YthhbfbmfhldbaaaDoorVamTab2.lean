/- The second table. -/
import Derived.Test.YthhbfbmfhldbaaaDoorVamTab1
namespace Go.Proofs.YthhbfbmfhldbaaaDoor.lockKnown
open Vam
noncomputable def tab2 : Known := orK (one 26 .nil [] (.bool true)) tab1
noncomputable def is2 (f : FuncId) : Bool := Vam.cond (Nat.beq f 26) true (is1 f)
end Go.Proofs.YthhbfbmfhldbaaaDoor.lockKnown
