import Derived.Test.YthhbfbmfhldbaaaDoorVamT13
set_option linter.unusedVariables false
set_option linter.unusedSimpArgs false
set_option linter.constructorNameAsVariable false
namespace Go.Proofs.YthhbfbmfhldbaaaDoor.locks
open Vam
variable {is:FuncId→Bool}{orc:Known}{l:Ln}
section look
variable {Pr:Prt}{φ φ':BMap}{S S':SMap}{s s':St}{tm tm':TT}{H H':CH}{P:Program}
end look
theorem at_eq{l:List SB}{i:Nat}{x y:SB}(h:l[i]? =some x):(l.set i y)[i]? =some y:=by rw[List.getElem?_set_self (List.getElem?_eq_some_iff.1 h).1]
end Go.Proofs.YthhbfbmfhldbaaaDoor.locks
