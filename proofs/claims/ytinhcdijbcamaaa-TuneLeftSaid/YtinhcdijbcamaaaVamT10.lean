import Derived.Test.YtinhcdijbcamaaaVamT9
set_option linter.unusedVariables false
set_option linter.unusedSimpArgs false
set_option linter.constructorNameAsVariable false
namespace Go.Proofs.Ytinhcdijbcamaaa.tuneLeft
open Vam
section
variable {is:FuncId→Bool}{orc:Known}
variable {t:Ts}{J:List Jn}{v x:Int}
theorem ask_ok{l:List Int}(h:askE t l=0):TOk t∧keysB t l=true∧tunB t (yB t)=true:=by
 unfold askE at h
 split at h
 ·rename_i h1
  split at h
  ·rename_i h2
   split at h
   ·rename_i h3
    exact⟨(zAM t).1 h1,h2,h3⟩
   ·omega
  ·omega
 ·omega
end
section
variable {is:FuncId→Bool}{orc:Known}
theorem by3:Program.bytesOf Try.prog 3=8:=by kernel_rfl
theorem ap29_29:AppT Try.prog 29 29 3 1 8 ((.cons (.int .i64 0) .nil):V):=⟨ty29,⟨_,ty29⟩,cl3,by decide,by3,ze3,rfl⟩
variable {t:Ts}{J:List Jn}{kn mp sv cn:Nat}{st Y Z:List SB}{v x fm:Int}
def accI(l:List Int):U:=match l with
 |[]=>.lst .full 0 []
 |l=>.lst .own 1 (zN l)
theorem accI_snoc(x:Int)(l:List Int):accI (l++[x])=.lst .own 1 (zN l++[.int .i64 x]):=by
 cases l with
 |nil=>rfl
 |cons y l=>show U.lst .own 1 (List.map _ ((y::l)++[x]))=_;rw[List.map_append];rfl
end
section
variable {is:FuncId→Bool}{orc:Known}
variable {t:Ts}{J:List Jn}{v x:Int}
end
end Go.Proofs.Ytinhcdijbcamaaa.tuneLeft
