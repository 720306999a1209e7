/- The first table: the innermost calls. -/
import Derived.Test.YthhbfbmfhldbaaaDoorVamLits
namespace Go.Proofs.YthhbfbmfhldbaaaDoor.lockKnown
open Vam
noncomputable def tab0 : Known := noKnown
noncomputable def is0 (_ : FuncId) : Bool := false
noncomputable def tab1 : Known := (orK (one 36 q0A q0B q0R) (orK (one 27 q1A q1B q1R) (orK (one 29 q2A q2B q2R) (orK (one 31 q3A q3B q3R) (orK (one 78 q4A q4B q4R) (orK (one 78 q5A q5B q5R) (orK (one 19 q6A q6B q6R) (orK (one 63 q7A q7B q7R) (orK (one 61 q8A q8B q8R) (orK (one 39 q9A q9B q9R) (orK (one 78 q10A q10B q10R) (orK (one 31 q11A q11B q11R) noKnown))))))))))))
noncomputable def is1 (f : FuncId) : Bool := (Vam.cond (Nat.beq f 78) true (Vam.cond (Nat.beq f 63) true (Vam.cond (Nat.beq f 61) true (Vam.cond (Nat.beq f 39) true (Vam.cond (Nat.beq f 36) true (Vam.cond (Nat.beq f 31) true (Vam.cond (Nat.beq f 29) true (Vam.cond (Nat.beq f 27) true (Vam.cond (Nat.beq f 19) true false)))))))))
end Go.Proofs.YthhbfbmfhldbaaaDoor.lockKnown
