import Derived.Test.YtinhcdijbcamaaaVamT12
set_option linter.unusedVariables false
set_option linter.unusedSimpArgs false
set_option linter.constructorNameAsVariable false
namespace Go.Proofs.Ytinhcdijbcamaaa.tuneTrue
open Vam
section
variable {is:FuncId→Bool}{orc:Known}
variable {t:Ts}{J:List Jn}{v x:Int}
theorem zHG(t:Ts):errT t=0↔tunB t (zc t)=true:=by unfold errT;split<;>simp_all
theorem canB_val(hv:ym t=true)(ha:Key t v):canB t v x=(tunB t (zc t)&&(decide (hloT t v≤x∧x≤hhiT t v)&&tunB (yN t v x) (zc t))):=by
 unfold canB
 rw[ask_one hv ha]
 cases htb:tunB t (zc t)with
 |true=>rw[decide_eq_true ((zHG t).2 htb)]
 |false=>rw[decide_eq_false (fun h=>by rw[(zHG t).1 h]at htb;cases htb)]
end
section
variable {is:FuncId→Bool}{orc:Known}
variable {t:Ts}{J:List Jn}{v x:Int}
def pL(l:List Int)(v:Int):Int:=(l[v.toNat]?).getD 0
end
end Go.Proofs.Ytinhcdijbcamaaa.tuneTrue
