/- The first table: the innermost calls. -/
import Derived.Test.YtolfmdodgfjhdabVamLits
namespace Go.Proofs.Ytolfmdodgfjhdab.raspKnown
open Vam
noncomputable def tab0 : Known := noKnown
noncomputable def is0 (_ : FuncId) : Bool := false
noncomputable def tab1 : Known := (orK (one 6 q0A q0B q0R) (orK (one 7 q1A q1B q1R) (orK (one 9 q2A q2B q2R) (orK (one 12 q3A q3B q3R) (orK (one 12 q4A q4B q4R) (orK (one 12 q5A q5B q5R) (orK (one 11 q6A q6B q6R) (orK (one 6 q7A q7B q7R) (orK (one 7 q8A q8B q8R) (orK (one 10 q9A q9B q9R) (orK (one 11 q10A q10B q10R) (orK (one 6 q11A q11B q11R) (orK (one 7 q12A q12B q12R) (orK (one 10 q13A q13B q13R) (orK (one 9 q14A q14B q14R) (orK (one 11 q15A q15B q15R) noKnown))))))))))))))))
noncomputable def is1 (f : FuncId) : Bool := (Vam.cond (Nat.beq f 12) true (Vam.cond (Nat.beq f 11) true (Vam.cond (Nat.beq f 10) true (Vam.cond (Nat.beq f 9) true (Vam.cond (Nat.beq f 7) true (Vam.cond (Nat.beq f 6) true false))))))
end Go.Proofs.Ytolfmdodgfjhdab.raspKnown
