import Derived.Test.YtinhcdijbcamaaaVamT11
set_option linter.unusedVariables false
set_option linter.unusedSimpArgs false
set_option linter.constructorNameAsVariable false
namespace Go.Proofs.Ytinhcdijbcamaaa.tuneTrue
open Vam
section
variable {is:FuncId→Bool}{orc:Known}
variable {t:Ts}{J:List Jn}{v x:Int}
abbrev Key(t:Ts)(a:Int):Prop:=0≤a∧a<(t.heard.length:Int)
noncomputable def errT(t:Ts):Int:=if tunB t (zc t)=true then 0 else 12
theorem ask_two(hv:ym t=true){a b:Int}(ha:Key t a)(hb:Key t b):askE t [a,b]=errT t:=by
 have hk:zEa t [a,b]=true:=by unfold zEa;simp;omega
 unfold askE errT
 rw[if_pos hv,if_pos hk]
theorem ask_one(hv:ym t=true){a:Int}(ha:Key t a):askE t [a]=errT t:=by
 have hk:zEa t [a]=true:=by unfold zEa;simp;omega
 unfold askE errT
 rw[if_pos hv,if_pos hk]
theorem spn_same(a b:Int):binV Try.prog 26 .eql (valK (yz a b)) (valK (yz a b))=some (.bool true):=by
 have h:binV Try.prog 26 .eql (valK (yz a b)) (valK (yz a b))=opt none (fun x=>some (V.bool x)) (Vam.cond (ieq a a) (Vam.cond (ieq b b) (some true) (some false)) (some false)):=by kernel_rfl
 rw[h,zAf,zAf,show(a==a)=true by simp,show(b==b)=true by simp];rfl
end
section
variable {is:FuncId→Bool}{orc:Known}
theorem ty75:tyOf Try.prog 75=.slice 3:=by kernel_rfl
variable {t:Ts}{J:List Jn}{v x:Int}
end
section
variable {is:FuncId→Bool}{orc:Known}
theorem ze28:yc Try.prog 28=some ((.cons .nils (.cons .nils (.cons .nils (.cons (.int .i64 0) (.cons (.int .i64 0) .nil))))):V):=by kernel_rfl
variable {t:Ts}{J:List Jn}{v x:Int}
theorem ask_nil(hv:ym t=true):askE t []=errT t:=by
 unfold askE errT
 rw[if_pos hv,if_pos (show zEa t []=true from rfl)]
def putS(t:Ts)(v:Int)(q:Two):Ts:={t with heard:=t.heard.set v.toNat q}
theorem put_ok(h:TOk t){q:Two}(hq:1≤q.a∧q.a≤q.b∧q.b≤4000∧q.b - q.a≤40):TOk (putS t v q):=by
 have hl:(putS t v q).heard.length=t.heard.length:=by unfold putS;simp
 refine⟨by rw[hl];exact h.n1,by rw[hl];exact h.n8,fun w hw=>?_,⟨h.sh.ns,h.sh.np,h.sh.sc⟩,by rw[hl];exact h.sk,h.ss,by rw[hl];exact h.pr,h.bt,h.ac⟩
 rcases List.mem_or_eq_of_mem_set hw with hw|rfl
 ·exact h.hd w hw
 ·exact hq
end
end Go.Proofs.Ytinhcdijbcamaaa.tuneTrue
