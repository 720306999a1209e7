import Derived.Test.YtinhcdijbcamaaaVamLits
namespace Go.Proofs.Ytinhcdijbcamaaa.played
open Vam
noncomputable def tab0 : Known := (orK (one 17 q0A q0B q0R) (orK (one 65 q1A q1B q1R) (orK (one 70 q2A q2B q2R) noKnown)))
noncomputable def is0 (f : FuncId) : Bool := (Vam.cond (Nat.beq f 70) true (Vam.cond (Nat.beq f 65) true (Vam.cond (Nat.beq f 17) true false)))
noncomputable def tab1 : Known := (orK (one 15 q3A q3B q3R) (orK (one 22 q4A q4B q4R) (orK (one 24 q5A q5B q5R) (orK (one 26 q6A q6B q6R) (orK (one 28 q7A q7B q7R) (orK (one 17 q8A q8B q8R) (orK (one 65 q9A q9B q9R) (orK (one 17 q0A q0B q0R) (orK (one 65 q1A q1B q1R) (orK (one 70 q2A q2B q2R) noKnown))))))))))
noncomputable def is1 (f : FuncId) : Bool := (Vam.cond (Nat.beq f 70) true (Vam.cond (Nat.beq f 65) true (Vam.cond (Nat.beq f 28) true (Vam.cond (Nat.beq f 26) true (Vam.cond (Nat.beq f 24) true (Vam.cond (Nat.beq f 22) true (Vam.cond (Nat.beq f 17) true (Vam.cond (Nat.beq f 15) true false))))))))
end Go.Proofs.Ytinhcdijbcamaaa.played
