import Derived.Test.YthhbfbmfhldbaaaDoorVamT3
set_option linter.unusedVariables false
set_option linter.unusedSimpArgs false
set_option linter.constructorNameAsVariable false
namespace Go.Proofs.YthhbfbmfhldbaaaDoor.locks
open Vam
variable {is:FuncId→Bool}{orc:Known}{l:Ln}
theorem pl_at{p:List Int}{n:Nat}(h:p.length=n)(i:Nat):pl p i=at' p (i % n):=by
 unfold pl at'
 rw[h,←Int.natCast_emod,Int.toNat_natCast]
end Go.Proofs.YthhbfbmfhldbaaaDoor.locks
