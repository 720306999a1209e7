/- The tables: the innermost calls first. -/
import Derived.Test.YtlknfhjfkcboiaaDoorVamLits
namespace Go.Proofs.YtlknfhjfkcboiaaDoor.nightKnown
open Vam
noncomputable def tL0 : Known := noKnown
noncomputable def iL0 (_ : Go.FuncId) : Bool := false
noncomputable def tL1 : Known := (orK (oneS 25 q0A b0 q0R q0S) (orK (oneS 63 q1A b1 q1R q1S) (orK (oneS 63 q2A b2 q2R q2S) (orK (oneS 63 q3A b3 q3R q3S) (orK (oneS 63 q4A b0 q4R q4S) (orK (oneS 63 q5A b4 q5R q5S) (orK (oneS 63 q6A b5 q6R q6S) (orK (oneS 63 q7A b6 q7R q7S) (orK (oneS 70 q8A b7 q8R q8S) (orK (one 70 q9A b7 q9R) (orK (one 70 q10A b7 q10R) (orK (one 70 q11A b7 q11R) (orK (oneS 70 q12A b7 q12R q12S) (orK (oneS 70 q13A b7 q13R q13S) (orK (oneS 70 q14A b7 q14R q14S) (orK (oneS 70 q15A b7 q15R q15S) (orK (oneS 70 q16A b7 q16R q16S) (orK (oneS 70 q17A b7 q17R q17S) (orK (oneS 70 q18A b7 q18R q18S) (orK (one 21 q19A b8 q19R) (orK (one 40 q20A b8 q20R) (orK (one 27 q21A b9 q21R) (orK (one 25 q22A b10 q22R) (orK (one 42 q23A b7 q23R) (orK (oneS 25 q24A b1 q24R q24S) (orK (oneS 25 q25A b11 q25R q25S) (orK (oneS 63 q26A b12 q26R q26S) (orK (oneS 63 q27A b13 q27R q27S) (orK (oneS 63 q28A b11 q28R q28S) (orK (oneS 63 q29A b14 q29R q29S) (orK (oneS 63 q30A b15 q30R q30S) (orK (oneS 63 q31A b16 q31R q31S) (orK (oneS 63 q32A b17 q32R q32S) (orK (one 40 q33A b18 q33R) tL0))))))))))))))))))))))))))))))))))
noncomputable def iL1 (f : Go.FuncId) : Bool := (Vam.cond (Nat.beq f 70) true (Vam.cond (Nat.beq f 63) true (Vam.cond (Nat.beq f 42) true (Vam.cond (Nat.beq f 40) true (Vam.cond (Nat.beq f 27) true (Vam.cond (Nat.beq f 25) true (Vam.cond (Nat.beq f 21) true false)))))))
noncomputable def tL2 : Known := (orK (oneS 63 q34A b7 q34R q34S) (orK (one 71 q35A b7 q35R) (orK (one 46 q36A b7 q36R) tL1)))
noncomputable def iL2 (f : Go.FuncId) : Bool := (Vam.cond (Nat.beq f 71) true (Vam.cond (Nat.beq f 70) true (Vam.cond (Nat.beq f 63) true (Vam.cond (Nat.beq f 46) true (Vam.cond (Nat.beq f 42) true (Vam.cond (Nat.beq f 40) true (Vam.cond (Nat.beq f 27) true (Vam.cond (Nat.beq f 25) true (Vam.cond (Nat.beq f 21) true false)))))))))
noncomputable def tL3 : Known := (orK (oneS 21 q37A b7 q37R q37S) (orK (oneS 67 q38A b19 q38R q38S) (orK (one 40 q39A b7 q39R) (orK (oneS 67 q40A b20 q40R q40S) tL2))))
noncomputable def iL3 (f : Go.FuncId) : Bool := (Vam.cond (Nat.beq f 71) true (Vam.cond (Nat.beq f 70) true (Vam.cond (Nat.beq f 67) true (Vam.cond (Nat.beq f 63) true (Vam.cond (Nat.beq f 46) true (Vam.cond (Nat.beq f 42) true (Vam.cond (Nat.beq f 40) true (Vam.cond (Nat.beq f 27) true (Vam.cond (Nat.beq f 25) true (Vam.cond (Nat.beq f 21) true false))))))))))
noncomputable def tL4 : Known := (orK (oneS 27 q41A b19 q41R q41S) (orK (oneS 27 q42A b20 q42R q42S) tL3))
noncomputable def iL4 (f : Go.FuncId) : Bool := (Vam.cond (Nat.beq f 71) true (Vam.cond (Nat.beq f 70) true (Vam.cond (Nat.beq f 67) true (Vam.cond (Nat.beq f 63) true (Vam.cond (Nat.beq f 46) true (Vam.cond (Nat.beq f 42) true (Vam.cond (Nat.beq f 40) true (Vam.cond (Nat.beq f 27) true (Vam.cond (Nat.beq f 25) true (Vam.cond (Nat.beq f 21) true false))))))))))
noncomputable abbrev tab1 : Known := tL4
noncomputable abbrev is1 : Go.FuncId → Bool := iL4
end Go.Proofs.YtlknfhjfkcboiaaDoor.nightKnown
