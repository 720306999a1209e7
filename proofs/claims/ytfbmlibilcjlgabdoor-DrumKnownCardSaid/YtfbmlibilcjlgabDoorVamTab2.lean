/- The second table. -/
import Derived.Test.YtfbmlibilcjlgabDoorVamTab1
namespace Go.Proofs.YtfbmlibilcjlgabDoor.drumKnown
open Vam
noncomputable def tab2 : Known := orK (one 17 .nil [] (.bool true)) tab1
noncomputable def is2 (f : FuncId) : Bool := Vam.cond (Nat.beq f 17) true (is1 f)
end Go.Proofs.YtfbmlibilcjlgabDoor.drumKnown
