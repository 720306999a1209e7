/- The last table. -/
import Derived.Test.YtlknfhjfkcboiaaDoorVamTab1
namespace Go.Proofs.YtlknfhjfkcboiaaDoor.nightKnown
open Vam
noncomputable def tab2 : Known := orK (one 24 .nil [] (.bool true)) tab1
noncomputable def is2 (f : Go.FuncId) : Bool := Vam.cond (Nat.beq f 24) true (is1 f)
end Go.Proofs.YtlknfhjfkcboiaaDoor.nightKnown
