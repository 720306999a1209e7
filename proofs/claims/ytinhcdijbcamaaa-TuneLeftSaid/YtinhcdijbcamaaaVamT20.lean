import Derived.Test.YtinhcdijbcamaaaVamT19
set_option linter.unusedVariables false
set_option linter.unusedSimpArgs false
set_option linter.constructorNameAsVariable false
namespace Go.Proofs.Ytinhcdijbcamaaa.tuneLeft
open Vam
section
variable {is:FuncId→Bool}{orc:Known}
theorem by61:Program.bytesOf Try.prog 61=48:=by kernel_rfl
theorem pl61:zFd Try.prog 61=some [(0,1),(1,1)]:=by kernel_rfl
theorem ap23_23:AppT Try.prog 23 23 61 2 48 ((.cons .nils (.cons .nils .nil)):V):=⟨ty23,⟨_,ty23⟩,cl61,by decide,by61,ze61,rfl⟩
variable {t:Ts}{J:List Jn}{v x y a b c d:Int}{st Y Z:List SB}{l:List Int}
def accQ(l:List Scl):U:=match l with
 |[]=>.lst .full 0 []
 |x::l=>.lst .own 2 (yg (x::l))
theorem accQ_snoc(x:Scl)(l:List Scl):accQ (l++[x])=.lst .own 2 (yg l++[x.u]):=by
 cases l with
 |nil=>rfl
 |cons y l=>show U.lst .own 2 (yg (y::(l++[x])))=_;simp
def accW(l:List Two):U:=match l with
 |[]=>.lst .full 0 []
 |x::l=>.lst .own 2 (zO (x::l))
theorem accW_snoc(x:Two)(l:List Two):accW (l++[x])=.lst .own 2 (zO l++[x.u]):=by
 cases l with
 |nil=>rfl
 |cons y l=>show U.lst .own 2 (zO (y::(l++[x])))=_;simp
end
section
variable {is:FuncId→Bool}{orc:Known}
variable {t:Ts}{J:List Jn}{v x y a b c d:Int}{st Y Z:List SB}{l:List Int}
end
end Go.Proofs.Ytinhcdijbcamaaa.tuneLeft
