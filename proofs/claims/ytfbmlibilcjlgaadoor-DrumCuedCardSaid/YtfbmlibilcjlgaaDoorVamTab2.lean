/- The second table. -/
import Derived.Test.YtfbmlibilcjlgaaDoorVamTab1
namespace Go.Proofs.YtfbmlibilcjlgaaDoor.works
open Vam
noncomputable def tab2 : Known := orK (one 24 .nil [] (.bool true)) tab1
noncomputable def is2 (f : FuncId) : Bool := Vam.cond (Nat.beq f 24) true (is1 f)
end Go.Proofs.YtfbmlibilcjlgaaDoor.works
