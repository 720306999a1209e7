import Derived.Test.YtinhcdijbcamaaaVamT12
set_option linter.unusedVariables false
set_option linter.unusedSimpArgs false
set_option linter.constructorNameAsVariable false
namespace Go.Proofs.Ytinhcdijbcamaaa.tuneLeft
open Vam
section
variable {is:FuncId→Bool}{orc:Known}
theorem ty4:tyOf Try.prog 4=.bool:=by kernel_rfl
variable {t:Ts}{J:List Jn}{v x:Int}
theorem errT_01(t:Ts):errT t=0∨errT t=12:=by unfold errT;split<;>simp
theorem errT_0(t:Ts):errT t=0↔tunB t (yB t)=true:=by unfold errT;split<;>simp_all
end
section
variable {is:FuncId→Bool}{orc:Known}
variable {t:Ts}{J:List Jn}{v x:Int}
end
end Go.Proofs.Ytinhcdijbcamaaa.tuneLeft
