import Derived.Test.YtfbmlibilcjlgaaDoorVamLits
namespace Go.Proofs.YtfbmlibilcjlgaaDoor.works
open Vam
noncomputable def tab0 : Known := (orK (one 78 q0A q0B q0R) noKnown)
noncomputable def is0 (f : FuncId) : Bool := (Vam.cond (Nat.beq f 78) true false)
noncomputable def tab1 : Known := (orK (one 19 q1A q1B q1R) (orK (one 25 q2A q2B q2R) (orK (one 71 q3A q3B q3R) (orK (one 71 q4A q4B q4R) (orK (one 71 q5A q5B q5R) (orK (one 71 q6A q6B q6R) (orK (one 29 q7A q7B q7R) (orK (one 31 q8A q8B q8R) (orK (one 78 q0A q0B q0R) noKnown)))))))))
noncomputable def is1 (f : FuncId) : Bool := (Vam.cond (Nat.beq f 78) true (Vam.cond (Nat.beq f 71) true (Vam.cond (Nat.beq f 31) true (Vam.cond (Nat.beq f 29) true (Vam.cond (Nat.beq f 25) true (Vam.cond (Nat.beq f 19) true false))))))
end Go.Proofs.YtfbmlibilcjlgaaDoor.works
