import Derived.Test.YtinhcdijbcamaaaVamT11
set_option linter.unusedVariables false
set_option linter.unusedSimpArgs false
set_option linter.constructorNameAsVariable false
namespace Go.Proofs.Ytinhcdijbcamaaa.tuneSure
open Vam
section
variable {is:FuncId→Bool}{orc:Known}
variable {t:Ts}{J:List Jn}{v x:Int}
abbrev Key(t:Ts)(a:Int):Prop:=0≤a∧a<(t.heard.length:Int)
end
section
variable {is:FuncId→Bool}{orc:Known}
theorem ty75:tyOf Try.prog 75=.slice 3:=by kernel_rfl
variable {t:Ts}{J:List Jn}{v x:Int}
end
section
variable {is:FuncId→Bool}{orc:Known}
variable {t:Ts}{J:List Jn}{v x:Int}
end
end Go.Proofs.Ytinhcdijbcamaaa.tuneSure
