/- The first table. -/
import Derived.Test.YtnkmhgojbinhkacVamLits
namespace Go.Proofs.Ytnkmhgojbinhkac.forgeKnown
open Vam
noncomputable def tab1 : Known := (orK (many 29 dfA dfB 0 101 (.bool false)) (orK (many 29 dfA dfB 101 101 (.bool false)) (orK (many 29 dfA dfB 202 99 (.bool false)) (orK (many 30 qfA qfB 0 101 (.bool false)) (orK (many 30 qfA qfB 101 101 (.bool false)) (orK (many 30 qfA qfB 202 99 (.bool false)) (orK (many 30 qwA qwB 27 92 (.bool false)) (orK (many 30 qwA qwB 119 92 (.bool false)) (orK (many 30 qwA qwB 211 90 (.bool false)) noKnown)))))))))
noncomputable def is1 (f : FuncId) : Bool := Vam.cond (Nat.beq f 29) true (Nat.beq f 30)
end Go.Proofs.Ytnkmhgojbinhkac.forgeKnown
