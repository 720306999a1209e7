/- The second table. -/
import Derived.Test.YtnkmhgojbinhkacVamLits
namespace Go.Proofs.Ytnkmhgojbinhkac.forgeKnown
open Vam
noncomputable def tab2 : Known := (orK (one 9 sfA sfB sfR) (orK (one 9 swA swB swR) (orK (one 8 bfA bfB bfR) (orK (one 21 mfA mfB mfR) (orK (one 21 mwA mwB mwR) noKnown)))))
noncomputable def is2 (f : FuncId) : Bool := Vam.cond (Nat.beq f 9) true (Vam.cond (Nat.beq f 8) true (Nat.beq f 21))
end Go.Proofs.Ytnkmhgojbinhkac.forgeKnown
