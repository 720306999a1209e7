/- The second table. -/
import Derived.Test.YtdahbimllmapkaaVamTab1
namespace Go.Proofs.Ytdahbimllmapkaa.filed
open Vam
noncomputable def tab2 : Known := orK (one 20 .nil [] (.bool true)) tab1
noncomputable def is2 (f : FuncId) : Bool := Vam.cond (Nat.beq f 20) true (is1 f)
end Go.Proofs.Ytdahbimllmapkaa.filed
