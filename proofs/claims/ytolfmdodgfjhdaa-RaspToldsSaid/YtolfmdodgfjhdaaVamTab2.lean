/- The second table. -/
import Derived.Test.YtolfmdodgfjhdaaVamTab1
namespace Go.Proofs.Ytolfmdodgfjhdaa.filed
open Vam
noncomputable def tab2 : Known := orK (one 21 .nil [] (.bool true)) tab1
noncomputable def is2 (f : FuncId) : Bool := Vam.cond (Nat.beq f 21) true (is1 f)
end Go.Proofs.Ytolfmdodgfjhdaa.filed
