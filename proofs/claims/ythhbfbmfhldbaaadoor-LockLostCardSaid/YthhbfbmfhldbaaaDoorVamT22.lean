import Derived.Test.YthhbfbmfhldbaaaDoorVamT21
set_option linter.unusedVariables false
set_option linter.unusedSimpArgs false
set_option linter.constructorNameAsVariable false
namespace Go.Proofs.YthhbfbmfhldbaaaDoor.locks
open Vam
section
variable {is:FuncId→Bool}{orc:Known}{l:Ln}
end
section
variable {is:FuncId→Bool}{orc:Known}{l:Ln}
theorem prt_len(p:List Int)(w:Int):(prtL p w).length≤p.length:=zBp _ _
end
end Go.Proofs.YthhbfbmfhldbaaaDoor.locks
