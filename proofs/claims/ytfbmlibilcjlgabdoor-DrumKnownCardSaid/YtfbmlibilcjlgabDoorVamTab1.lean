/- The first table: the innermost calls. -/
import Derived.Test.YtfbmlibilcjlgabDoorVamLits
namespace Go.Proofs.YtfbmlibilcjlgabDoor.drumKnown
open Vam
noncomputable def tab0 : Known := (orK (one 34 q0A q0B q0R) (orK (one 34 q1A q1B q1R) (orK (one 34 q2A q2B q2R) noKnown)))
noncomputable def is0 (f : FuncId) : Bool := (Vam.cond (Nat.beq f 34) true false)
noncomputable def tab1 : Known := (orK (one 9 q3A q3B q3R) (orK (one 10 q4A q4B q4R) (orK (one 11 q5A q5B q5R) (orK (one 12 q6A q6B q6R) (orK (one 14 q7A q7B q7R) (orK (one 14 q8A q8B q8R) (orK (one 7 q9A q9B q9R) (orK (one 7 q10A q10B q10R) (orK (one 7 q11A q11B q11R) (orK (one 12 q12A q12B q12R) (orK (one 8 q13A q13B q13R) (orK (one 11 q14A q14B q14R) (orK (one 7 q15A q15B q15R) (orK (one 9 q16A q16B q16R) (orK (one 30 q17A q17B q17R) (orK (one 30 q18A q18B q18R) (orK (one 30 q19A q19B q19R) (orK (one 30 q20A q20B q20R) (orK (one 11 q21A q21B q21R) (orK (one 12 q22A q22B q22R) (orK (one 34 q0A q0B q0R) (orK (one 34 q1A q1B q1R) (orK (one 34 q2A q2B q2R) noKnown)))))))))))))))))))))))
noncomputable def is1 (f : FuncId) : Bool := (Vam.cond (Nat.beq f 34) true (Vam.cond (Nat.beq f 30) true (Vam.cond (Nat.beq f 14) true (Vam.cond (Nat.beq f 12) true (Vam.cond (Nat.beq f 11) true (Vam.cond (Nat.beq f 10) true (Vam.cond (Nat.beq f 9) true (Vam.cond (Nat.beq f 8) true (Vam.cond (Nat.beq f 7) true false)))))))))
end Go.Proofs.YtfbmlibilcjlgabDoor.drumKnown
