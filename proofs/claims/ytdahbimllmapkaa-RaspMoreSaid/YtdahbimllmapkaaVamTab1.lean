/- The first table: the innermost calls. -/
import Derived.Test.YtdahbimllmapkaaVamLits
namespace Go.Proofs.Ytdahbimllmapkaa.filed
open Vam
noncomputable def tab1 : Known := (orK (one 14 q0A q0B q0R) (orK (one 21 q1A q1B q1R) (orK (one 28 q2A q2B q2R) (orK (one 26 q3A q3B q3R) (orK (one 18 q4A q4B q4R) noKnown)))))
noncomputable def is1 (f : FuncId) : Bool := (Vam.cond (Nat.beq f 28) true (Vam.cond (Nat.beq f 26) true (Vam.cond (Nat.beq f 21) true (Vam.cond (Nat.beq f 18) true (Vam.cond (Nat.beq f 14) true false)))))
end Go.Proofs.Ytdahbimllmapkaa.filed
