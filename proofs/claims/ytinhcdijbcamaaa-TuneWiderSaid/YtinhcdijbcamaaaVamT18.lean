import Derived.Test.YtinhcdijbcamaaaVamT17
set_option linter.unusedVariables false
set_option linter.unusedSimpArgs false
set_option linter.constructorNameAsVariable false
namespace Go.Proofs.Ytinhcdijbcamaaa.tuneWider
open Vam
section
variable {is:FuncId→Bool}{orc:Known}
variable {t:Ts}{J:List Jn}{fo se le:Nat}{st Y Z:List SB}
end
section
variable {is:FuncId→Bool}{orc:Known}
variable {t:Ts}{J:List Jn}{v x y:Int}{st Y Z:List SB}
end
end Go.Proofs.Ytinhcdijbcamaaa.tuneWider
