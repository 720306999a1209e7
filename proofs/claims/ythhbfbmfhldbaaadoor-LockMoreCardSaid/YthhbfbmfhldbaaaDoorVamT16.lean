import Derived.Test.YthhbfbmfhldbaaaDoorVamT15
set_option linter.unusedVariables false
set_option linter.unusedSimpArgs false
set_option linter.constructorNameAsVariable false
namespace Go.Proofs.YthhbfbmfhldbaaaDoor.locks
open Vam
variable {is:FuncId→Bool}{orc:Known}{l:Ln}
theorem bd_int1(a:Int)(m:Nat):BdS m (.box [.int .i64 a]):=fun c hc=>by
 rcases List.mem_singleton.1 hc with rfl;exact Bd.int _ _ _
end Go.Proofs.YthhbfbmfhldbaaaDoor.locks
