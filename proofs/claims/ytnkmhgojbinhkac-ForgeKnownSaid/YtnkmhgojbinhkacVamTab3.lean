/- The third table. -/
import Derived.Test.YtnkmhgojbinhkacVamTab2
namespace Go.Proofs.Ytnkmhgojbinhkac.forgeKnown
open Vam
noncomputable def tab3 : Known := orK (one 7 .nil [] (.bool true)) tab2
noncomputable def is3 (f : FuncId) : Bool := Vam.cond (Nat.beq f 7) true (is2 f)
end Go.Proofs.Ytnkmhgojbinhkac.forgeKnown
