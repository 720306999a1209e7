import Derived.Test.YthhbfbmfhldbaaaDoorVamT11
set_option linter.unusedVariables false
set_option linter.unusedSimpArgs false
set_option linter.constructorNameAsVariable false
namespace Go.Proofs.YthhbfbmfhldbaaaDoor.locks
open Vam
section
variable {is:FuncId→Bool}{orc:Known}{l:Ln}
theorem ints_dg(L:List Int):(zF L).map dg=zF L:=by
 induction L with
 |nil=>rfl
 |cons a L ih=>show dg (.int .i64 a)::(zF L).map dg=_;rw[ih];rfl
end
section
variable {is:FuncId→Bool}{orc:Known}{l:Ln}
end
end Go.Proofs.YthhbfbmfhldbaaaDoor.locks
