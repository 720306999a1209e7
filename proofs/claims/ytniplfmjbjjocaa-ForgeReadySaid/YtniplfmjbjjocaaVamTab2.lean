/- The second table. -/
import Derived.Test.YtniplfmjbjjocaaVamTab1
namespace Go.Proofs.Ytniplfmjbjjocaa.works
open Vam
noncomputable def tab2 : Known := orK (one 8 .nil [] (.bool true)) tab1
noncomputable def is2 (f : FuncId) : Bool := Vam.cond (Nat.beq f 8) true (is1 f)
end Go.Proofs.Ytniplfmjbjjocaa.works
