/- The first table: the innermost calls. -/
import Derived.Test.YtolfmdodgfjhdaaVamLits
namespace Go.Proofs.Ytolfmdodgfjhdaa.filed
open Vam
noncomputable def tab0 : Known := noKnown
noncomputable def is0 (_ : FuncId) : Bool := false
noncomputable def tab1 : Known := (orK (one 15 q0A q0B q0R) (orK (one 22 q1A q1B q1R) (orK (one 29 q2A q2B q2R) (orK (one 27 q3A q3B q3R) (orK (one 19 q4A q4B q4R) noKnown)))))
noncomputable def is1 (f : FuncId) : Bool := (Vam.cond (Nat.beq f 29) true (Vam.cond (Nat.beq f 27) true (Vam.cond (Nat.beq f 22) true (Vam.cond (Nat.beq f 19) true (Vam.cond (Nat.beq f 15) true false)))))
end Go.Proofs.Ytolfmdodgfjhdaa.filed
