/- The second table. -/
import Derived.Test.YthelocfjafigmabVamTab1
namespace Go.Proofs.Ythelocfjafigmab.settleKnown
open Vam
noncomputable def tab2 : Known := orK (one 18 .nil [] (.bool true)) tab1
noncomputable def is2 (f : FuncId) : Bool := Vam.cond (Nat.beq f 18) true (is1 f)
end Go.Proofs.Ythelocfjafigmab.settleKnown
