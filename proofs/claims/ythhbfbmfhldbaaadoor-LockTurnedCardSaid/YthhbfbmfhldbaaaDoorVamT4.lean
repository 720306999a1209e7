import Derived.Test.YthhbfbmfhldbaaaDoorVamT3
set_option linter.unusedVariables false
set_option linter.unusedSimpArgs false
set_option linter.constructorNameAsVariable false
namespace Go.Proofs.YthhbfbmfhldbaaaDoor.locks
open Vam
variable {is:FuncId→Bool}{orc:Known}{l:Ln}
end Go.Proofs.YthhbfbmfhldbaaaDoor.locks
