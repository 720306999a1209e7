import Derived.Test.YthhbfbmfhldbaaaDoorVamT21
set_option linter.unusedVariables false
set_option linter.unusedSimpArgs false
set_option linter.constructorNameAsVariable false
namespace Go.Proofs.YthhbfbmfhldbaaaDoor.locks
open Vam
section
variable {is:FuncId→Bool}{orc:Known}{l:Ln}
end
section
variable {l:Ln}
end
end Go.Proofs.YthhbfbmfhldbaaaDoor.locks
