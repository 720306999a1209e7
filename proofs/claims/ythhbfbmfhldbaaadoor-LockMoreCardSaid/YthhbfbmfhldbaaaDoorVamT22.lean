import Derived.Test.YthhbfbmfhldbaaaDoorVamT21
set_option linter.unusedVariables false
set_option linter.unusedSimpArgs false
set_option linter.constructorNameAsVariable false
namespace Go.Proofs.YthhbfbmfhldbaaaDoor.locks
open Vam
section
variable {is:FuncId→Bool}{orc:Known}{l:Ln}
end
section
variable {is:FuncId→Bool}{orc:Known}{l:Ln}
theorem ty4:tyOf Tryd.prog 4=.bool:=by kernel_rfl
end
end Go.Proofs.YthhbfbmfhldbaaaDoor.locks
