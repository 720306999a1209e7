import Derived.Test.YtlknfhjfkcboiaaDoorVamLits
namespace Go.Proofs.YtlknfhjfkcboiaaDoor.works
open Vam
noncomputable def tL0 : Known := noKnown
noncomputable def iL0 (_ : Go.FuncId) : Bool := false
noncomputable def tL1 : Known := (orK (oneS 25 q0A b0 q0R q0S) (orK (oneS 63 q1A b1 q1R q1S) (orK (oneS 63 q2A b2 q2R q2S) (orK (oneS 63 q3A b3 q3R q3S) (orK (oneS 63 q4A b0 q4R q4S) (orK (oneS 63 q5A b4 q5R q5S) (orK (oneS 63 q6A b5 q6R q6S) (orK (oneS 63 q7A b6 q7R q7S) (orK (oneS 70 q8A b7 q8R q8S) (orK (one 70 q9A b7 q9R) (orK (one 70 q10A b7 q10R) (orK (one 70 q11A b7 q11R) (orK (oneS 70 q12A b7 q12R q12S) (orK (oneS 70 q13A b7 q13R q13S) (orK (oneS 70 q14A b7 q14R q14S) (orK (oneS 70 q15A b7 q15R q15S) (orK (oneS 70 q16A b7 q16R q16S) (orK (oneS 70 q17A b7 q17R q17S) (orK (oneS 70 q18A b7 q18R q18S) tL0)))))))))))))))))))
noncomputable def iL1 (f : Go.FuncId) : Bool := (Vam.cond (Nat.beq f 70) true (Vam.cond (Nat.beq f 63) true (Vam.cond (Nat.beq f 25) true false)))
noncomputable def tL2 : Known := (orK (oneS 63 q19A b7 q19R q19S) (orK (one 71 q20A b7 q20R) tL1))
noncomputable def iL2 (f : Go.FuncId) : Bool := (Vam.cond (Nat.beq f 71) true (Vam.cond (Nat.beq f 70) true (Vam.cond (Nat.beq f 63) true (Vam.cond (Nat.beq f 25) true false))))
noncomputable def tL3 : Known := (orK (oneS 21 q21A b7 q21R q21S) (orK (oneS 67 q22A b8 q22R q22S) (orK (one 40 q23A b7 q23R) tL2)))
noncomputable def iL3 (f : Go.FuncId) : Bool := (Vam.cond (Nat.beq f 71) true (Vam.cond (Nat.beq f 70) true (Vam.cond (Nat.beq f 67) true (Vam.cond (Nat.beq f 63) true (Vam.cond (Nat.beq f 40) true (Vam.cond (Nat.beq f 25) true (Vam.cond (Nat.beq f 21) true false)))))))
noncomputable def tL4 : Known := (orK (oneS 27 q24A b8 q24R q24S) tL3)
noncomputable def iL4 (f : Go.FuncId) : Bool := (Vam.cond (Nat.beq f 71) true (Vam.cond (Nat.beq f 70) true (Vam.cond (Nat.beq f 67) true (Vam.cond (Nat.beq f 63) true (Vam.cond (Nat.beq f 40) true (Vam.cond (Nat.beq f 27) true (Vam.cond (Nat.beq f 25) true (Vam.cond (Nat.beq f 21) true false))))))))
noncomputable abbrev tab1 : Known := tL4
noncomputable abbrev is1 : Go.FuncId → Bool := iL4
end Go.Proofs.YtlknfhjfkcboiaaDoor.works
