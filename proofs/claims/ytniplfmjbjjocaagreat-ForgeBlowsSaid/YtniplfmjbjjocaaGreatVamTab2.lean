/- The second table. -/
import Derived.Test.YtniplfmjbjjocaaGreatVamTab1
namespace Go.Proofs.YtniplfmjbjjocaaGreat.works
open Vam
noncomputable def tab2 : Known := orK (one 15 .nil [] (.bool true)) tab1
noncomputable def is2 (f : FuncId) : Bool := Vam.cond (Nat.beq f 15) true (is1 f)
end Go.Proofs.YtniplfmjbjjocaaGreat.works
