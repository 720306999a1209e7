import Derived.Test.YtinhcdijbcamaaaVamT20
set_option linter.unusedVariables false
set_option linter.unusedSimpArgs false
set_option linter.constructorNameAsVariable false
namespace Go.Proofs.Ytinhcdijbcamaaa.tuneLeft
open Vam
variable {is:FuncId→Bool}{orc:Known}
variable {t X:Ts}{J:List Jn}{v x y a b c d:Int}{st Y Z:List SB}{l:List Int}{p:Int→Int}
end Go.Proofs.Ytinhcdijbcamaaa.tuneLeft
