import Derived.Test.YtinhcdijbcamaaaVamT11
set_option linter.unusedVariables false
set_option linter.unusedSimpArgs false
set_option linter.constructorNameAsVariable false
namespace Go.Proofs.Ytinhcdijbcamaaa.tuneWider
open Vam
section
variable {is:FuncId→Bool}{orc:Known}
variable {t:Ts}{J:List Jn}{v x:Int}
abbrev Key(t:Ts)(a:Int):Prop:=0≤a∧a<(t.heard.length:Int)
noncomputable def errT(t:Ts):Int:=if tunB t (zY t)=true then 0 else 12
theorem ask_one(hv:wN t=true){a:Int}(ha:Key t a):askE t [a]=errT t:=by
 have hk:zGs t [a]=true:=by unfold zGs;simp;omega
 unfold askE errT
 rw[if_pos hv,if_pos hk]
theorem spn_same(a b:Int):binV Try.prog 26 .eql (valK (wQ a b)) (valK (wQ a b))=some (.bool true):=by
 have h:binV Try.prog 26 .eql (valK (wQ a b)) (valK (wQ a b))=opt none (fun x=>some (V.bool x)) (Vam.cond (ieq a a) (Vam.cond (ieq b b) (some true) (some false)) (some false)):=by kernel_rfl
 rw[h,zAT,zAT,show(a==a)=true by simp,show(b==b)=true by simp];rfl
end
section
variable {is:FuncId→Bool}{orc:Known}
variable {t:Ts}{J:List Jn}{v x:Int}
end
section
variable {is:FuncId→Bool}{orc:Known}
theorem ze28:ya Try.prog 28=some ((.cons .nils (.cons .nils (.cons .nils (.cons (.int .i64 0) (.cons (.int .i64 0) .nil))))):V):=by kernel_rfl
variable {t:Ts}{J:List Jn}{v x:Int}
theorem ask_nil(hv:wN t=true):askE t []=errT t:=by
 unfold askE errT
 rw[if_pos hv,if_pos (show zGs t []=true from rfl)]
end
end Go.Proofs.Ytinhcdijbcamaaa.tuneWider
